import PyProof.Rows.All
import Wide.All
import OpenK.AllK
import Wide.FinOn
import Open.SpecLaws
import KE.OsGo
import KE.KSortTup
import HandS.ForSpec
import HandS.ForMost
import HandS.TryMany
import HandS.Sort
import HandS.SortOrd
import HandS.SortRule
import HandS.NamedTupSort
import HandS.Walk
import PySem.Challenge.RW_drivershours_s01_answers
set_option Elab.async false
set_option linter.all false
section
set_option autoImplicit false
namespace Dh
open Kg70
/-! ### stretches: a list told, made longer by one -/
def push (y : Nat × Nat) : Told → Told
  | [] => [y]
  | z :: r => if y.1 = z.1 then (y.1, y.2 + z.2) :: r else y :: z :: r
theorem push_cons (y z : Nat × Nat) (r : Told) : push y (z :: r) = if y.1 = z.1 then (y.1, y.2 + z.2) :: r else y :: z :: r := rfl
theorem joined_cons (y : Nat × Nat) (l : Told) : joined (y :: l) = push y (joined l) := by
  show (match joined l with | [] => [y] | z :: r => if y.1 = z.1 then (y.1, y.2 + z.2) :: r else y :: z :: r) = push y (joined l)
  cases joined l <;> rfl
def addT : Told → Nat × Nat → Told
  | [], x => [x]
  | [y], x => if y.1 = x.1 then [(y.1, y.2 + x.2)] else [y, x]
  | y :: z :: r, x => y :: addT (z :: r) x
theorem push_addT (y x : Nat × Nat) : ∀ l : Told, push y (addT l x) = addT (push y l) x
  | [] => by
    show (if y.1 = x.1 then [(y.1, y.2 + x.2)] else [y, x]) = (if y.1 = x.1 then [(y.1, y.2 + x.2)] else [y, x])
    rfl
  | [z] => by
    by_cases h1 : z.1 = x.1 <;> by_cases h2 : y.1 = z.1
    · have h3 : y.1 = x.1 := h2.trans h1
      simp [addT, push, h1, h3, Nat.add_assoc]
    · have h3 : ¬ y.1 = x.1 := fun e => h2 (e.trans h1.symm)
      simp [addT, push, h1, h3]
    · have h3 : ¬ y.1 = x.1 := fun e => h1 (h2.symm.trans e)
      simp [addT, push, h1, h2]
    · simp [addT, push, h1, h2]
  | z :: z2 :: r => by
    by_cases h2 : y.1 = z.1
    · simp [addT, push, h2]
    · simp [addT, push, h2]
theorem joined_snoc (x : Nat × Nat) : ∀ l : Told, joined (l ++ [x]) = addT (joined l) x
  | [] => rfl
  | y :: l => by
    rw [List.cons_append, joined_cons, joined_snoc x l, joined_cons, push_addT]
def addStretch (l : List Stretch) (t : Nat) (x : Nat × Nat) : List Stretch :=
  match l.getLast? with
  | some s => if s.kind = x.1 then l.dropLast ++ [⟨x.1, s.from_, t + x.2⟩] else l ++ [⟨x.1, t, t + x.2⟩]
  | none => l ++ [⟨x.1, t, t + x.2⟩]
theorem addStretch_cons (s s2 : Stretch) (r : List Stretch) (t : Nat) (x : Nat × Nat) : addStretch (s :: s2 :: r) t x = s :: addStretch (s2 :: r) t x := by
  unfold addStretch
  rw [List.getLast?_cons_cons]
  cases h : (s2 :: r).getLast? with
  | none => rfl
  | some y =>
    dsimp only
    split
    · rw [List.dropLast_cons_cons, List.cons_append]
    · rfl
theorem total_cons (y : Nat × Nat) (l : Told) : total (y :: l) = y.2 + total l := by
  show ((y :: l).map _).sum = _
  rw [List.map_cons, List.sum_cons]
  rfl
theorem total_snoc (y : Nat × Nat) (l : Told) : total (l ++ [y]) = total l + y.2 := by
  unfold total
  rw [List.map_append, List.sum_append]
  simp
theorem placed_addT (x : Nat × Nat) : ∀ (l : Told) (t : Nat), placed t (addT l x) = addStretch (placed t l) (t + total l) x
  | [], t => by
    show [_] = [] ++ [_]
    simp [total]
  | [y], t => by
    have e : t + total [y] = t + y.2 := by simp [total]
    rw [e]
    by_cases h : y.1 = x.1
    · simp [addT, h, placed, addStretch, Nat.add_assoc]
    · simp [addT, h, placed, addStretch]
  | y :: z :: r, t => by
    have ih := placed_addT x (z :: r) (t + y.2)
    have e : t + total (y :: z :: r) = t + y.2 + total (z :: r) := by rw [total_cons]; omega
    show (⟨y.1, t, t + y.2⟩ : Stretch) :: placed (t + y.2) (addT (z :: r) x) = addStretch (⟨y.1, t, t + y.2⟩ :: ⟨z.1, t + y.2, t + y.2 + z.2⟩ :: placed (t + y.2 + z.2) r) _ x
    rw [addStretch_cons, ih, e]
    rfl
theorem total_push (y : Nat × Nat) (l : Told) : total (push y l) = y.2 + total l := by
  cases l with
  | nil => simp [push, total]
  | cons z r =>
    rw [push_cons]
    split
    · rw [total_cons, total_cons]
      show y.2 + z.2 + total r = _
      omega
    · rw [total_cons]
theorem total_joined : ∀ l : Told, total (joined l) = total l
  | [] => rfl
  | y :: l => by rw [joined_cons, total_push, total_joined l, total_cons]
/-- the loop of stretches_of, one turn more -/
theorem line_snoc (l : Told) (x : Nat × Nat) : line (l ++ [x]) = addStretch (line l) (total l) x := by
  unfold line
  rw [joined_snoc, placed_addT, total_joined, Nat.zero_add]
/-! ### what holds of a line -/
def Line : Nat → Option Nat → List Stretch → Prop
  | _, _, [] => True
  | t, k, s :: l => s.from_ = t ∧ s.from_ < s.till ∧ s.kind ≤ 2 ∧ k ≠ some s.kind ∧ Line s.till (some s.kind) l
def ToldOk (l : Told) : Prop := ∀ x ∈ l, x.1 ≤ 2 ∧ 1 ≤ x.2 ∧ x.2 ≤ 20000
/-- alike ones don't stand side by side -/
def Apart : Option Nat → Told → Prop
  | _, [] => True
  | k, x :: l => k ≠ some x.1 ∧ x.1 ≤ 2 ∧ 1 ≤ x.2 ∧ Apart (some x.1) l
theorem apart_push (y : Nat × Nat) (h1 : y.1 ≤ 2) (h2 : 1 ≤ y.2) : ∀ (l : Told) (k : Option Nat), k ≠ some y.1 → Apart none l → Apart k (push y l)
  | [], k, hk, _ => ⟨hk, h1, h2, trivial⟩
  | z :: r, k, hk, ⟨_, h3, h4, h5⟩ => by
    rw [push_cons]
    split
    · rename_i e
      exact ⟨hk, h1, by show 1 ≤ y.2 + z.2; omega, by rw [e]; exact h5⟩
    · rename_i e
      exact ⟨hk, h1, h2, ⟨fun q => e (Option.some.inj q), h3, h4, h5⟩⟩
theorem apart_joined : ∀ l : Told, ToldOk l → Apart none (joined l)
  | [], _ => trivial
  | y :: l, h => by
    rw [joined_cons]
    have hy := h y (List.mem_cons_self ..)
    exact apart_push y hy.1 hy.2.1 _ none (by simp) (apart_joined l fun x m => h x (List.mem_cons_of_mem _ m))
theorem line_placed : ∀ (l : Told) (t : Nat) (k : Option Nat), Apart k l → Line t k (placed t l)
  | [], _, _, _ => trivial
  | x :: l, t, k, ⟨h1, h2, h3, h4⟩ => ⟨rfl, by show t < t + x.2; omega, h2, h1, line_placed l (t + x.2) (some x.1) h4⟩
theorem line_ok (l : Told) (h : ToldOk l) : Line 0 none (line l) := line_placed _ 0 none (apart_joined l h)
/-- where it ends -/
def endOf : Nat → List Stretch → Nat
  | t, [] => t
  | _, s :: l => endOf s.till l
theorem endOf_placed : ∀ (l : Told) (t : Nat), endOf t (placed t l) = t + total l
  | [], t => by simp [placed, endOf, total]
  | x :: l, t => by
    show endOf (t + x.2) (placed (t + x.2) l) = _
    rw [endOf_placed l, total_cons]
    omega
theorem endOf_line (l : Told) : endOf 0 (line l) = total l := by
  unfold line
  rw [endOf_placed, total_joined, Nat.zero_add]
theorem endOf_ge : ∀ (l : List Stretch) (t : Nat) (k : Option Nat), Line t k l → t ≤ endOf t l
  | [], t, _, _ => Nat.le_refl _
  | s :: l, t, k, ⟨h1, h2, _, _, h5⟩ => by
    have := endOf_ge l s.till _ h5
    show t ≤ endOf s.till l
    omega
theorem till_le : ∀ (l : List Stretch) (t : Nat) (k : Option Nat), Line t k l → ∀ s ∈ l, t ≤ s.from_ ∧ s.from_ < s.till ∧ s.till ≤ endOf t l ∧ s.kind ≤ 2
  | [], _, _, _, s, m => by simp at m
  | x :: l, t, k, ⟨h1, h2, h3, h4, h5⟩, s, m => by
    rcases List.mem_cons.mp m with rfl | m
    · exact ⟨by omega, h2, endOf_ge l s.till _ h5, h3⟩
    · have := till_le l x.till _ h5 s m
      exact ⟨by omega, this.2.1, this.2.2.1, this.2.2.2⟩
theorem len_push (y : Nat × Nat) (l : Told) : (push y l).length ≤ l.length + 1 := by
  cases l with
  | nil => simp [push]
  | cons z r =>
    rw [push_cons]
    split <;> simp
theorem len_joined : ∀ l : Told, (joined l).length ≤ l.length
  | [] => Nat.le_refl _
  | y :: l => by
    rw [joined_cons]
    have := len_push y (joined l)
    have := len_joined l
    simp only [List.length_cons]
    omega
theorem len_placed : ∀ (l : Told) (t : Nat), (placed t l).length = l.length
  | [], _ => rfl
  | x :: l, t => by
    show (placed (t + x.2) l).length + 1 = l.length + 1
    rw [len_placed l]
theorem len_line (l : Told) : (line l).length ≤ l.length := by
  unfold line
  rw [len_placed]
  exact len_joined l
theorem total_le : ∀ l : Told, ToldOk l → total l ≤ 20000 * l.length
  | [], _ => by simp [total]
  | x :: l, h => by
    have h1 := (h x (List.mem_cons_self ..)).2.2
    have := total_le l fun y m => h y (List.mem_cons_of_mem _ m)
    rw [total_cons, List.length_cons]
    omega
end Dh

end
section
set_option autoImplicit false
namespace Dh
open Kg70
/-! ### rule 1: the spells between whole breaks, the last one still going on -/
def drive (r : Run) (s : Stretch) : Run := { r with driven := r.driven + s.long, over := match r.over with
        | some t => some t
        | none => if DRIVE < r.driven + s.long then some (s.from_ + (DRIVE - r.driven)) else none }
def endsAt (r : Run) (s : Stretch) : Bool := decide (BREAK ≤ s.long) || (r.part && decide (SECOND ≤ s.long))
def spells : Run → List Stretch → List Run
  | r, [] => [r]
  | r, s :: l => if s.kind = 0 then (if endsAt r s = true then r :: spells fresh l else spells { r with part := r.part || decide (FIRST ≤ s.long) } l)
    else if s.kind = 1 then spells (drive r s) l else spells r l
theorem endsAt_iff (r : Run) (s : Stretch) : endsAt r s = true ↔ (BREAK ≤ s.long ∨ (r.part = true ∧ SECOND ≤ s.long)) := by
  unfold endsAt
  rw [Bool.or_eq_true, Bool.and_eq_true, decide_eq_true_eq, decide_eq_true_eq]
theorem breaks_nil (r : Run) : breaks r [] = r.ends := by unfold breaks; rfl
theorem breaks_cons (r : Run) (s : Stretch) (l : List Stretch) : breaks r (s :: l) = if s.kind = 0 then
      (if BREAK ≤ s.long ∨ (r.part = true ∧ SECOND ≤ s.long) then r.ends ++ breaks fresh l
      else breaks { r with part := r.part || decide (FIRST ≤ s.long) } l)
    else if s.kind = 1 then breaks (drive r s) l else breaks r l := by
  rw [breaks]
  rfl
theorem breaks_spells : ∀ (l : List Stretch) (r : Run), breaks r l = (spells r l).flatMap Run.ends
  | [], r => by rw [breaks_nil]; simp [spells]
  | s :: l, r => by
    rw [breaks_cons, spells]
    by_cases h : s.kind = 0
    · rw [if_pos h, if_pos h]
      by_cases h2 : endsAt r s = true
      · rw [if_pos h2, if_pos ((endsAt_iff r s).mp h2), breaks_spells l]
        rfl
      · rw [if_neg h2, if_neg (fun q => h2 ((endsAt_iff r s).mpr q)), breaks_spells l]
    · rw [if_neg h, if_neg h]
      by_cases h2 : s.kind = 1
      · rw [if_pos h2, if_pos h2, breaks_spells l]
      · rw [if_neg h2, if_neg h2, breaks_spells l]
/-- the minute is known just where there's too much -/
def RunOk (r : Run) : Prop := (r.over = none ↔ r.driven ≤ DRIVE)
theorem runOk_fresh : RunOk fresh := by
  unfold RunOk fresh
  simp
theorem runOk_drive (r : Run) (s : Stretch) (h : RunOk r) : RunOk (drive r s) := by
  unfold RunOk at h ⊢
  unfold drive
  dsimp only
  cases e : r.over with
  | some t =>
    rw [e] at h
    have : ¬ r.driven ≤ DRIVE := fun q => by cases h.mpr q
    simp
    omega
  | none =>
    dsimp only
    by_cases c : DRIVE < r.driven + s.long
    · rw [if_pos c]; simp; omega
    · rw [if_neg c]; simp; omega
theorem runOk_spells : ∀ (l : List Stretch) (r : Run), RunOk r → ∀ x ∈ spells r l, RunOk x
  | [], r, h, x, m => by
    rw [spells] at m
    simp at m
    subst m
    exact h
  | s :: l, r, h, x, m => by
    rw [spells] at m
    split at m
    · split at m
      · rcases List.mem_cons.mp m with rfl | m
        · exact h
        · exact runOk_spells l _ runOk_fresh x m
      · exact runOk_spells l _ (by exact h) x m
    · split at m
      · exact runOk_spells l _ (runOk_drive r s h) x m
      · exact runOk_spells l _ h x m
theorem len_spells : ∀ (l : List Stretch) (r : Run), (spells r l).length ≤ l.length + 1
  | [], r => by simp [spells]
  | s :: l, r => by
    rw [spells]
    have h1 := len_spells l
    split
    · split
      · have := h1 fresh
        simp only [List.length_cons]
        omega
      · have := h1 { r with part := r.part || decide (FIRST ≤ s.long) }
        simp only [List.length_cons]
        omega
    · split
      · have := h1 (drive r s)
        simp only [List.length_cons]
        omega
      · have := h1 r
        simp only [List.length_cons]
        omega
/-- the one that goes on at the end, but for the minute -/
theorem lastRun_spells : ∀ (l : List Stretch) (r r' : Run), r.driven = r'.driven → r.part = r'.part → ∃ x, (spells r l).getLast? = some x ∧ (lastRun r' l).driven = x.driven ∧ (lastRun r' l).part = x.part
  | [], r, r', h1, h2 => ⟨r, by simp [spells], by unfold lastRun; exact h1.symm, by unfold lastRun; exact h2.symm⟩
  | s :: l, r, r', h1, h2 => by
    rw [spells, lastRun]
    by_cases h : s.kind = 0
    · rw [if_pos h, if_pos h]
      by_cases h3 : endsAt r s = true
      · have h4 : BREAK ≤ s.long ∨ (r'.part = true ∧ SECOND ≤ s.long) := by
          rw [← h2]
          exact (endsAt_iff r s).mp h3
        rw [if_pos h3, if_pos h4]
        obtain ⟨x, e1, e2⟩ := lastRun_spells l fresh fresh rfl rfl
        refine ⟨x, ?_, e2⟩
        rw [List.getLast?_cons]
        rw [e1]
        rfl
      · have h4 : ¬ (BREAK ≤ s.long ∨ (r'.part = true ∧ SECOND ≤ s.long)) := by
          rw [← h2]
          exact fun q => h3 ((endsAt_iff r s).mpr q)
        rw [if_neg h3, if_neg h4]
        exact lastRun_spells l _ _ h1 (by dsimp only; rw [h2])
    · rw [if_neg h, if_neg h]
      by_cases h3 : s.kind = 1
      · rw [if_pos h3, if_pos h3]
        exact lastRun_spells l _ _ (by dsimp only [drive]; rw [h1]) (by dsimp only [drive]; rw [h2])
      · rw [if_neg h3, if_neg h3]
        exact lastRun_spells l _ _ h1 h2

/-! ### the order of what's broken -/
theorem before_iff (a b : Broken) : before a b = true ↔ a.at_ < b.at_ ∨ (a.at_ = b.at_ ∧ (a.rule < b.rule ∨ (a.rule = b.rule ∧ a.minutes < b.minutes))) := by
  unfold before
  simp only [Bool.or_eq_true, Bool.and_eq_true, decide_eq_true_eq, beq_iff_eq]
theorem before_no (a b : Broken) : before a b = false ↔ ¬ (a.at_ < b.at_ ∨ (a.at_ = b.at_ ∧ (a.rule < b.rule ∨ (a.rule = b.rule ∧ a.minutes < b.minutes)))) := by
  rw [← before_iff]
  cases before a b <;> simp
def Rising (l : List Broken) : Prop := l.Pairwise fun a b => before b a = false
theorem perm_put (x : Broken) : ∀ l : List Broken, (put x l).Perm (x :: l)
  | [] => List.Perm.refl _
  | y :: l => by
    rw [put]
    split
    · exact List.Perm.refl _
    · exact ((perm_put x l).cons y).trans (List.Perm.swap x y l)
theorem rising_put (x : Broken) : ∀ l : List Broken, Rising l → Rising (put x l)
  | [], _ => List.pairwise_singleton _ _
  | y :: l, h => by
    rw [put]
    have h' := List.pairwise_cons.mp h
    split
    · rename_i e
      refine List.pairwise_cons.mpr ⟨fun z m => ?_, h⟩
      rcases List.mem_cons.mp m with rfl | m
      · have := (before_iff _ _).mp e
        refine (before_no _ _).mpr ?_
        omega
      · have a := (before_iff _ _).mp e
        have b := (before_no _ _).mp (h'.1 z m)
        refine (before_no _ _).mpr ?_
        omega
    · rename_i e
      refine List.pairwise_cons.mpr ⟨fun z m => ?_, rising_put x l h'.2⟩
      rcases List.mem_cons.mp ((perm_put x l).mem_iff.mp m) with rfl | m
      · cases q : before z y with
        | true => exact absurd q e
        | false => rfl
      · exact h'.1 z m
theorem sorted_fold : ∀ (l s : List Broken), Rising s → Rising (l.foldl (fun s x => put x s) s) ∧ (l.foldl (fun s x => put x s) s).Perm (l ++ s)
  | [], s, h => ⟨h, List.Perm.refl _⟩
  | x :: l, s, h => by
    have ih := sorted_fold l (put x s) (rising_put x s h)
    refine ⟨ih.1, ih.2.trans ?_⟩
    refine ((perm_put x s).append_left l).trans ?_
    exact List.perm_middle
theorem sorted_rising (l : List Broken) : Rising (sorted l) := (sorted_fold l [] List.Pairwise.nil).1
theorem sorted_perm (l : List Broken) : (sorted l).Perm l := by
  have := (sorted_fold l [] List.Pairwise.nil).2
  rw [List.append_nil] at this
  exact this
theorem rising_uniq : ∀ (l m : List Broken), Rising l → Rising m → l.Perm m → l = m
  | [], m, _, _, p => (List.Perm.nil_eq p)
  | x :: l, [], _, _, p => by
    have := p.length_eq
    simp at this
  | x :: l, y :: m, h1, h2, p => by
    have a := List.pairwise_cons.mp h1
    have b := List.pairwise_cons.mp h2
    have e : x = y := by
      rcases List.mem_cons.mp (p.mem_iff.mp (List.mem_cons_self .. : x ∈ x :: l)) with e | m1
      · exact e
      rcases List.mem_cons.mp (p.mem_iff.mpr (List.mem_cons_self .. : y ∈ y :: m)) with e | m2
      · exact e.symm
      have c := (before_no _ _).mp (a.1 y m2)
      have d := (before_no _ _).mp (b.1 x m1)
      cases x
      cases y
      simp only at c d
      simp only [Broken.mk.injEq]
      omega
    subst e
    rw [rising_uniq l m a.2 b.2 (List.perm_cons x |>.mp p)]
theorem sorted_of_perm {l m s : List Broken} (h : Rising s) (p : s.Perm l) (q : l.Perm m) : s = sorted m :=
  rising_uniq s (sorted m) h (sorted_rising m) (p.trans (q.trans (sorted_perm m).symm))
end Dh

end
section
set_option autoImplicit false
namespace Dh
open Kg70
/-! ### rests behind the first work -/
def rests (w : Nat) (l : List Stretch) : List Stretch := l.filter fun s => s.kind == 0 && decide (w < s.from_)
def weeklyRests (w : Nat) (l : List Stretch) : List Stretch := (rests w l).filter fun s => decide (WEEKLY ≤ s.long)
theorem weekly_is (w : Nat) (l : List Stretch) : (weekly l).filter (fun r => decide (w < r.from_)) = weeklyRests w l := by
  unfold weekly weeklyRests rests
  rw [List.filter_filter, List.filter_filter]
  refine List.filter_congr fun s _ => ?_
  cases (s.kind == 0) <;> cases decide (WEEKLY ≤ s.long) <;> cases decide (w < s.from_) <;> rfl
/-! ### rules 5 and 6, by the rest of the list -/
theorem sixDays_nil (e x : Nat) : sixDays e x [] = if x + 6 * DAY < e then [⟨5, x + 6 * DAY, e - (x + 6 * DAY)⟩] else [] := by rw [sixDays]
theorem sixDays_cons (e x : Nat) (r : Stretch) (l : List Stretch) : sixDays e x (r :: l) = (if x + 6 * DAY < r.from_ then [(⟨5, x + 6 * DAY, r.from_ - (x + 6 * DAY)⟩ : Broken)] else []) ++ sixDays e r.till l := by rw [sixDays]
def shortAt (e : Nat) (r : Stretch) : Bool := decide (r.long < WHOLE) && r.till != e
theorem twoShort_nil (e : Nat) (b : Bool) : twoShort e b [] = [] := by rw [twoShort]
theorem twoShort_cons (e : Nat) (b : Bool) (r : Stretch) (l : List Stretch) : twoShort e b (r :: l) = (if (b && shortAt e r) = true then [(⟨6, r.from_, WHOLE - r.long⟩ : Broken)] else []) ++ twoShort e (shortAt e r) l := by
  rw [twoShort]
  rfl
theorem len_sixDays (e : Nat) : ∀ (l : List Stretch) (x : Nat), (sixDays e x l).length ≤ l.length + 1
  | [], x => by rw [sixDays_nil]; split <;> simp
  | r :: l, x => by
    rw [sixDays_cons, List.length_append]
    have := len_sixDays e l r.till
    split <;> simp <;> omega
theorem len_twoShort (e : Nat) : ∀ (l : List Stretch) (b : Bool), (twoShort e b l).length ≤ l.length
  | [], b => by rw [twoShort_nil]; simp
  | r :: l, b => by
    rw [twoShort_cons, List.length_append]
    have := len_twoShort e l (shortAt e r)
    split <;> simp <;> omega
/-! ### rule 7 -/
def payS (spare start : Nat) : List Debt → List Debt
  | [] => []
  | d :: l => if d.minutes ≤ spare ∧ start + d.minutes ≤ d.by_ then l else d :: payS spare start l
theorem pay_is (r : Stretch) : ∀ l : List Debt, pay r l = payS (spare r) r.from_ l
  | [] => by rw [pay, payS]
  | d :: l => by rw [pay, payS, pay_is r l]
theorem payS_zero (t : Nat) : ∀ l : List Debt, (∀ d ∈ l, 1 ≤ d.minutes) → payS 0 t l = l
  | [], _ => rfl
  | d :: l, h => by
    rw [payS, if_neg, payS_zero t l fun x m => h x (List.mem_cons_of_mem _ m)]
    have := h d (List.mem_cons_self ..)
    omega
theorem payS_sub (s t : Nat) : ∀ (l : List Debt) (d : Debt), d ∈ payS s t l → d ∈ l
  | [], d, m => by simp [payS] at m
  | x :: l, d, m => by
    rw [payS] at m
    split at m
    · exact List.mem_cons_of_mem _ m
    · rcases List.mem_cons.mp m with rfl | m
      · exact List.mem_cons_self ..
      · exact List.mem_cons_of_mem _ (payS_sub s t l d m)
theorem len_payS (s t : Nat) : ∀ (l : List Debt), (payS s t l).length ≤ l.length
  | [] => by simp [payS]
  | x :: l => by
    rw [payS]
    have := len_payS s t l
    split <;> simp <;> omega
def newDebt (e : Nat) (r : Stretch) : List Debt := if WEEKLY ≤ r.long ∧ r.long < WHOLE ∧ r.till ≠ e then [⟨WHOLE - r.long, (r.till / WEEK + 4) * WEEK⟩] else []
/-- the debts behind a list of rests -/
def owed (e : Nat) : List Debt → List Stretch → List Debt
  | ds, [] => ds
  | ds, r :: l => owed e (payS (spare r) r.from_ ds ++ newDebt e r) l
def dues (e : Nat) (ds : List Debt) : List Broken := (ds.filter fun d => decide (d.by_ ≤ e)).map fun d => ⟨7, d.by_, d.minutes⟩
theorem newDebt_pos (e : Nat) (r : Stretch) : ∀ d ∈ newDebt e r, 1 ≤ d.minutes := by
  intro d m
  unfold newDebt at m
  split at m
  · rename_i c
    have e : d = _ := List.mem_singleton.mp m
    rw [e]
    show 1 ≤ WHOLE - r.long
    omega
  · simp at m
theorem pos_next (e : Nat) (r : Stretch) (ds : List Debt) (h : ∀ d ∈ ds, 1 ≤ d.minutes) : ∀ d ∈ payS (spare r) r.from_ ds ++ newDebt e r, 1 ≤ d.minutes := fun d m => by
  rcases List.mem_append.mp m with m | m
  · exact h d (payS_sub _ _ ds d m)
  · exact newDebt_pos e r d m
theorem debts_is (e w : Nat) : ∀ (l : List Stretch) (ds : List Debt), (∀ d ∈ ds, 1 ≤ d.minutes) →
    debts e ds (l.filter fun r => decide (w < r.from_)) = dues e (owed e ds (rests w l))
  | [], ds, _ => by
    show debts e ds [] = dues e (owed e ds [])
    rw [debts]
    rfl
  | r :: l, ds, h => by
    have ih := debts_is e w l
    unfold rests at ih ⊢
    rw [List.filter_cons, List.filter_cons]
    by_cases h1 : w < r.from_
    · by_cases h2 : r.kind = 0
      · have c : (r.kind == 0 && decide (w < r.from_)) = true := by rw [decide_eq_true h1, h2]; rfl
        rw [if_pos (decide_eq_true h1), if_pos c, debts, owed]
        by_cases h3 : r.long < SHORT
        · rw [if_pos (Or.inr h3)]
          have h4 : spare r = 0 := by
            unfold spare
            have a : ¬ WHOLE ≤ r.long := by simp only [WHOLE, SHORT] at *; omega
            have b : r.long < WEEKLY := by simp only [WEEKLY, SHORT] at *; omega
            rw [if_neg a, if_pos b]
            omega
          have h5 : newDebt e r = [] := by
            unfold newDebt
            rw [if_neg]
            simp only [WEEKLY, SHORT] at *
            omega
          rw [h4, payS_zero _ _ h, h5, List.append_nil]
          exact ih ds h
        · rw [if_neg (by rintro (q | q); exact q h2; exact h3 q)]
          dsimp only
          rw [pay_is]
          exact ih _ (pos_next e r ds h)
      · have c : ¬ (r.kind == 0 && decide (w < r.from_)) = true := by simp [h2]
        rw [if_pos (decide_eq_true h1), if_neg c, debts, if_pos (Or.inl h2)]
        exact ih ds h
    · have c : ¬ (r.kind == 0 && decide (w < r.from_)) = true := by simp [h1]
      rw [if_neg (by simp [h1]), if_neg c]
      exact ih ds h
theorem len_owed (e : Nat) : ∀ (l : List Stretch) (ds : List Debt), (owed e ds l).length ≤ ds.length + l.length
  | [], ds => by simp [owed]
  | r :: l, ds => by
    rw [owed]
    have h1 := len_owed e l (payS (spare r) r.from_ ds ++ newDebt e r)
    have h2 := len_payS (spare r) r.from_ ds
    have h3 : (newDebt e r).length ≤ 1 := by unfold newDebt; split <;> simp
    rw [List.length_append] at h1
    rw [List.length_cons]
    omega
theorem len_dues (e : Nat) (ds : List Debt) : (dues e ds).length ≤ ds.length := by
  unfold dues
  rw [List.length_map]
  exact List.length_filter_le _ _
/-! ### rules 8 and 9 -/
def share (s : Stretch) (k : Nat) : Nat := if s.kind = 1 then min s.till ((k + 1) * WEEK) - max s.from_ (k * WEEK) else 0
theorem inWeek_snoc (l : List Stretch) (s : Stretch) (k : Nat) : inWeek (l ++ [s]) k = inWeek l k + share s k := by
  unfold inWeek share
  rw [List.map_append, List.sum_append]
  simp
theorem inWeek_late : ∀ (l : List Stretch) (k t : Nat), (∀ s ∈ l, s.till ≤ t) → t ≤ k * WEEK → inWeek l k = 0
  | [], k, t, _, _ => rfl
  | s :: l, k, t, h, hk => by
    have ih := inWeek_late l k t (fun x m => h x (List.mem_cons_of_mem _ m)) hk
    unfold inWeek at ih ⊢
    rw [List.map_cons, List.sum_cons, ih]
    have := h s (List.mem_cons_self ..)
    split
    · simp only [WEEK] at *
      omega
    · rfl
theorem inWeek_le : ∀ (l : List Stretch) (k : Nat), inWeek l k ≤ WEEK * l.length
  | [], k => by simp [inWeek]
  | s :: l, k => by
    have ih := inWeek_le l k
    unfold inWeek at ih ⊢
    rw [List.map_cons, List.sum_cons, List.length_cons]
    have : (if s.kind = 1 then min s.till ((k + 1) * WEEK) - max s.from_ (k * WEEK) else 0) ≤ WEEK := by
      split
      · simp only [WEEK]
        omega
      · exact Nat.zero_le _
    rw [Nat.mul_add, Nat.mul_one]
    omega
def nWeeks (e : Nat) : Nat := (e + WEEK - 1) / WEEK
/-- what's driven, week by week -/
def byWeek (l : List Stretch) (e : Nat) : List Nat := (List.range (nWeeks e)).map (inWeek l)
/-- what a list of weeks breaks, from week k on -/
def weekRows : Nat → Nat → List Nat → List Broken
  | _, _, [] => []
  | k, b, d :: l => ((if 3360 < d then [(⟨8, k * WEEK, d - 3360⟩ : Broken)] else []) ++ (if 5400 < b + d then [(⟨9, k * WEEK, b + d - 5400⟩ : Broken)] else [])) ++ weekRows (k + 1) d l
theorem len_weekRows : ∀ (l : List Nat) (k b : Nat), (weekRows k b l).length ≤ 2 * l.length
  | [], _, _ => by simp [weekRows]
  | d :: l, k, b => by
    rw [weekRows, List.length_append, List.length_append, List.length_cons]
    have := len_weekRows l (k + 1) d
    split <;> split <;> simp <;> omega
theorem weekRows_from (l : List Stretch) : ∀ (n k : Nat), weekRows k (if k = 0 then 0 else inWeek l (k - 1)) ((List.range' k n).map (inWeek l)) =
    (List.range' k n).flatMap fun k => (if 3360 < inWeek l k then [(⟨8, k * WEEK, inWeek l k - 3360⟩ : Broken)] else []) ++
    (let n := (if k = 0 then 0 else inWeek l (k - 1)) + inWeek l k
    if 5400 < n then [(⟨9, k * WEEK, n - 5400⟩ : Broken)] else [])
  | 0, k => rfl
  | n + 1, k => by
    rw [List.range'_succ, List.map_cons, List.flatMap_cons, weekRows]
    have ih := weekRows_from l n (k + 1)
    rw [if_neg (Nat.succ_ne_zero k), Nat.add_sub_cancel] at ih
    rw [ih]
theorem weeks_is (l : List Stretch) (e : Nat) : weeks l e = weekRows 0 0 (byWeek l e) := by
  have := weekRows_from l (nWeeks e) 0
  rw [if_pos rfl] at this
  unfold byWeek
  rw [List.range_eq_range', this, ← List.range_eq_range']
  rfl
end Dh

end
section
set_option autoImplicit false
namespace Dh
open Kg70
/-! ### days -/
theorem days_nil0 : days none [] = [] := by unfold days; rfl
theorem days_nil1 (d : Day) : days (some d) [] = [d] := by unfold days; rfl
theorem days_none (s : Stretch) (l : List Stretch) : days none (s :: l) = if s.kind = 0 then days none l else days (some ⟨s.from_, if s.kind = 1 then s.long else 0, false, none⟩) l := by rw [days]
theorem days_some (d : Day) (s : Stretch) (l : List Stretch) : days (some d) (s :: l) = if s.kind = 0 then
      (if SHORT ≤ s.long then { d with rest := some s } :: days none l else days (some { d with part := d.part || decide (PART ≤ s.long) }) l)
    else days (some { d with driven := d.driven + (if s.kind = 1 then s.long else 0) }) l := by rw [days]
/-- when a day began, and how its rest lies -/
def DayOk (e : Nat) (d : Day) : Prop := d.from_ ≤ e ∧ d.driven ≤ e ∧ ∀ r, d.rest = some r → d.from_ ≤ r.from_ ∧ r.from_ + SHORT ≤ r.till ∧ r.till ≤ e
/-- the days' beginnings, one behind another -/
def Begins : Nat → List Day → Prop
  | _, [] => True
  | t, d :: l => t ≤ d.from_ ∧ Begins d.from_ l
theorem begins_mono : ∀ (l : List Day) (t u : Nat), t ≤ u → Begins u l → Begins t l
  | [], _, _, _, _ => trivial
  | _ :: _, _, _, h, ⟨a, b⟩ => ⟨Nat.le_trans h a, b⟩
theorem days_ok (E : Nat) : ∀ (l : List Stretch) (o : Option Day) (t : Nat) (k : Option Nat), Line t k l → endOf t l ≤ E →
    (∀ d, o = some d → d.from_ + d.driven ≤ t ∧ d.rest = none) →
    (∀ d ∈ days o l, DayOk E d) ∧ Begins (match o with | some d => d.from_ | none => t) (days o l)
  | [], none, t, k, _, _, _ => by
    rw [days_nil0]
    exact ⟨fun d m => (by simp at m), trivial⟩
  | [], some d, t, k, _, hE, h => by
    rw [days_nil1]
    have h1 := h d rfl
    have hE' : t ≤ E := hE
    refine ⟨fun x m => ?_, Nat.le_refl _, trivial⟩
    have e := List.mem_singleton.mp m
    subst e
    refine ⟨by omega, by omega, fun r q => ?_⟩
    rw [h1.2] at q
    cases q
  | s :: l, none, t, k, ⟨h1, h2, h3, h4, h5⟩, hE, _ => by
    rw [days_none]
    have hE' : endOf s.till l ≤ E := hE
    split
    · have ih := days_ok E l none s.till _ h5 hE' (fun d q => by cases q)
      exact ⟨ih.1, begins_mono _ _ _ (by show t ≤ s.till; omega) ih.2⟩
    · have ih := days_ok E l (some ⟨s.from_, if s.kind = 1 then s.long else 0, false, none⟩) s.till _ h5 hE' (fun d q => by
        cases q
        refine ⟨?_, rfl⟩
        have : s.long = s.till - s.from_ := rfl
        dsimp only
        split <;> omega)
      refine ⟨ih.1, begins_mono _ _ _ ?_ ih.2⟩
      show t ≤ s.from_
      omega
  | s :: l, some d, t, k, ⟨h1, h2, h3, h4, h5⟩, hE, h => by
    rw [days_some]
    have hE' : endOf s.till l ≤ E := hE
    have hE2 : s.till ≤ E := Nat.le_trans (endOf_ge l s.till _ h5) hE'
    have h0 := h d rfl
    have hl : s.long = s.till - s.from_ := rfl
    split
    · split
      · rename_i c
        have ih := days_ok E l none s.till _ h5 hE' (fun d q => by cases q)
        refine ⟨fun x m => ?_, Nat.le_refl _, begins_mono _ _ _ (by show d.from_ ≤ s.till; omega) ih.2⟩
        rcases List.mem_cons.mp m with rfl | m
        · refine ⟨by show d.from_ ≤ E; omega, by show d.driven ≤ E; omega, fun r q => ?_⟩
          cases q
          simp only [SHORT] at *
          exact ⟨by show d.from_ ≤ s.from_; omega, by omega, hE2⟩
        · exact ih.1 x m
      · exact days_ok E l (some { d with part := d.part || decide (PART ≤ s.long) }) s.till _ h5 hE' (fun x q => by
          cases q
          exact ⟨by show d.from_ + d.driven ≤ s.till; omega, h0.2⟩)
    · exact days_ok E l (some { d with driven := d.driven + (if s.kind = 1 then s.long else 0) }) s.till _ h5 hE' (fun x q => by
        cases q
        refine ⟨?_, h0.2⟩
        dsimp only
        split <;> omega)
theorem len_days : ∀ (l : List Stretch) (o : Option Day), (days o l).length ≤ l.length + (if o.isSome = true then 1 else 0)
  | [], none => by rw [days_nil0]; simp
  | [], some d => by rw [days_nil1]; simp
  | s :: l, none => by
    rw [days_none]
    split
    · have := len_days l none
      simp only [List.length_cons, Option.isSome_none, Bool.false_eq_true, if_false] at *
      omega
    · have := len_days l (some ⟨s.from_, if s.kind = 1 then s.long else 0, false, none⟩)
      simp only [List.length_cons, Option.isSome_some, if_true] at *
      omega
  | s :: l, some d => by
    rw [days_some]
    split
    · split
      · have := len_days l none
        simp only [List.length_cons, Option.isSome_none, Option.isSome_some, if_true] at *
        simp at this
        omega
      · have := len_days l (some { d with part := d.part || decide (PART ≤ s.long) })
        simp only [List.length_cons, Option.isSome_some, if_true] at *
        omega
    · have := len_days l (some { d with driven := d.driven + (if s.kind = 1 then s.long else 0) })
      simp only [List.length_cons, Option.isSome_some, if_true] at *
      omega
/-! ### rules 2, 3, 4, each by itself -/
def isLong (d : Day) : Bool := decide (540 < d.driven)
def two1 (m : Nat) (d : Day) : List Broken := if 600 < d.driven then [(⟨2, d.from_, d.driven - 600⟩ : Broken)] else if isLong d = true ∧ 2 ≤ m then [⟨2, d.from_, d.driven - 540⟩] else []
def two : Nat × Nat → List Day → List Broken
  | _, [] => []
  | (w, n), d :: l => two1 (if d.from_ / WEEK = w then n else 0) d ++ two (d.from_ / WEEK, (if d.from_ / WEEK = w then n else 0) + if isLong d = true then 1 else 0) l
def three1 (e : Nat) (d : Day) : List Broken := if d.kind e = 2 then [(⟨3, d.from_ + DAY, SHORT - d.had⟩ : Broken)] else []
def three (e : Nat) (l : List Day) : List Broken := l.flatMap (three1 e)
def isWeekly (d : Day) : Bool := match d.rest with
      | some r => decide (WEEKLY ≤ r.long)
      | none => false
def four : Nat → Nat → List Day → List Broken
  | _, _, [] => []
  | e, n, d :: l => if isWeekly d = true then four e 0 l else if d.kind e = 1 then
      (if 3 < n + 1 then [(⟨4, (d.rest.map Stretch.from_).getD 0, LONG - d.had⟩ : Broken)] else []) ++ four e (n + 1) l else four e n l
theorem perDay_nil (e : Nat) (p : Nat × Nat) (n : Nat) : perDay e p n [] = [] := by unfold perDay; rfl
theorem perDay_cons (e w m n : Nat) (d : Day) (l : List Day) : perDay e (w, m) n (d :: l) =
    (two1 (if d.from_ / WEEK = w then m else 0) d ++ (three1 e d ++ (if d.kind e = 1 ∧ (isWeekly d = false ∧ 3 < (if d.kind e = 1 ∧ isWeekly d = false then n + 1 else n)) then [(⟨4, (d.rest.map Stretch.from_).getD 0, LONG - d.had⟩ : Broken)] else []))) ++
      perDay e (d.from_ / WEEK, (if d.from_ / WEEK = w then m else 0) + if isLong d = true then 1 else 0) (if isWeekly d = true then 0 else if d.kind e = 1 ∧ isWeekly d = false then n + 1 else n) l := by
  rw [perDay]
  rfl
theorem perm_parts {α : Type} (a b c x y z : List α) : ((a ++ (b ++ c)) ++ (x ++ (y ++ z))).Perm ((a ++ x) ++ ((b ++ y) ++ (c ++ z))) := by
  have h1 : ((b ++ c) ++ (y ++ z)).Perm ((b ++ y) ++ (c ++ z)) := by
    rw [List.append_assoc, List.append_assoc]
    refine List.Perm.append_left b ?_
    rw [← List.append_assoc, ← List.append_assoc]
    exact List.Perm.append_right z List.perm_append_comm
  have e1 : (a ++ (b ++ c)) ++ (x ++ (y ++ z)) = a ++ ((b ++ c) ++ (x ++ (y ++ z))) := List.append_assoc ..
  have e2 : (a ++ x) ++ ((b ++ y) ++ (c ++ z)) = a ++ (x ++ ((b ++ y) ++ (c ++ z))) := List.append_assoc ..
  rw [e1, e2]
  refine List.Perm.append_left a ?_
  have h2 : ((b ++ c) ++ (x ++ (y ++ z))).Perm (x ++ ((b ++ c) ++ (y ++ z))) := by
    have e3 : (b ++ c) ++ (x ++ (y ++ z)) = ((b ++ c) ++ x) ++ (y ++ z) := (List.append_assoc ..).symm
    have e4 : x ++ ((b ++ c) ++ (y ++ z)) = (x ++ (b ++ c)) ++ (y ++ z) := (List.append_assoc ..).symm
    rw [e3, e4]
    exact List.Perm.append_right _ List.perm_append_comm
  exact h2.trans (List.Perm.append_left x h1)
theorem perDay_perm (e : Nat) : ∀ (l : List Day) (p : Nat × Nat) (n : Nat), (perDay e p n l).Perm (two p l ++ (three e l ++ four e n l))
  | [], p, n => by
    rw [perDay_nil]
    cases p
    exact List.Perm.refl _
  | d :: l, (w, m), n => by
    rw [perDay_cons]
    have ih := perDay_perm e l (d.from_ / WEEK, (if d.from_ / WEEK = w then m else 0) + if isLong d = true then 1 else 0) (if isWeekly d = true then 0 else if d.kind e = 1 ∧ isWeekly d = false then n + 1 else n)
    refine (List.Perm.append_left _ ih).trans ?_
    refine (perm_parts _ _ _ _ _ _).trans ?_
    have h1 : three e (d :: l) = three1 e d ++ three e l := by unfold three; rw [List.flatMap_cons]
    rw [h1, two]
    refine List.Perm.append_left _ (List.Perm.append_left _ ?_)
    rw [four]
    cases hw : isWeekly d with
    | true => simp
    | false =>
      by_cases c : d.kind e = 1
      · by_cases g : 3 < n + 1
        · simp [c, g]
        · simp [c, g]
      · simp [c]
theorem len_two : ∀ (l : List Day) (p : Nat × Nat), (two p l).length ≤ l.length
  | [], (w, n) => by simp [two]
  | d :: l, (w, n) => by
    rw [two, List.length_append, List.length_cons]
    have := len_two l (d.from_ / WEEK, (if d.from_ / WEEK = w then n else 0) + if isLong d = true then 1 else 0)
    have h : ∀ m, (two1 m d).length ≤ 1 := fun m => by
      unfold two1
      split
      · exact Nat.le_refl _
      · split
        · exact Nat.le_refl _
        · exact Nat.zero_le _
    have := h (if d.from_ / WEEK = w then n else 0)
    omega
theorem len_three (e : Nat) : ∀ l : List Day, (three e l).length ≤ l.length
  | [] => by simp [three]
  | d :: l => by
    have := len_three e l
    unfold three at this ⊢
    rw [List.flatMap_cons, List.length_append, List.length_cons]
    have h : (three1 e d).length ≤ 1 := by unfold three1; split <;> simp
    omega
theorem len_four (e : Nat) : ∀ (l : List Day) (n : Nat), (four e n l).length ≤ l.length
  | [], n => by simp [four]
  | d :: l, n => by
    rw [four, List.length_cons]
    split
    · have := len_four e l 0
      omega
    · split
      · have := len_four e l (n + 1)
        rw [List.length_append]
        split <;> simp <;> omega
      · have := len_four e l n
        omega
end Dh

end
section
set_option autoImplicit false
namespace Dh
open Kg70
/-! ### all that's broken -/
def restsOf (l : List Stretch) : List Stretch := match firstWork l with
  | none => []
  | some w => rests w l
def weeklyOf (l : List Stretch) : List Stretch := (restsOf l).filter fun s => decide (WEEKLY ≤ s.long)
def missed (l : List Stretch) : List Broken := (spells fresh l).flatMap Run.ends
def late (e : Nat) (l : List Stretch) : List Broken := match firstWork l with
  | none => []
  | some w => sixDays e w (weeklyOf l)
def twice (e : Nat) (l : List Stretch) : List Broken := twoShort e false (weeklyOf l)
def unpaid (e : Nat) (l : List Stretch) : List Broken := dues e (owed e [] (restsOf l))
def overWeeks (e : Nat) (l : List Stretch) : List Broken := weekRows 0 0 (byWeek l e)
def allBroken (t : Told) : List Broken :=
  ((((((missed (line t) ++ two (0, 0) (days none (line t))) ++ three (total t) (days none (line t))) ++ four (total t) 0 (days none (line t))) ++ late (total t) (line t)) ++ twice (total t) (line t)) ++ unpaid (total t) (line t)) ++ overWeeks (total t) (line t)
theorem firstWork_none (l : List Stretch) (h : firstWork l = none) : ∀ s ∈ l, s.kind = 0 := by
  unfold firstWork at h
  rw [Option.map_eq_none_iff, List.find?_eq_none] at h
  intro s m
  have := h s m
  simpa using this
theorem spells_rest : ∀ (l : List Stretch) (r : Run), r.over = none → (∀ s ∈ l, s.kind = 0) → (spells r l).flatMap Run.ends = []
  | [], r, h, _ => by
    rw [spells]
    simp [Run.ends, h]
  | s :: l, r, h, k => by
    have hk := fun x m => k x (List.mem_cons_of_mem _ m)
    rw [spells, if_pos (k s (List.mem_cons_self ..))]
    split
    · rw [List.flatMap_cons, spells_rest l fresh rfl hk]
      simp [Run.ends, h]
    · exact spells_rest l _ h hk
theorem days_rest : ∀ (l : List Stretch), (∀ s ∈ l, s.kind = 0) → days none l = []
  | [], _ => days_nil0
  | s :: l, k => by
    rw [days_none, if_pos (k s (List.mem_cons_self ..))]
    exact days_rest l fun x m => k x (List.mem_cons_of_mem _ m)
theorem inWeek_rest : ∀ (l : List Stretch) (k : Nat), (∀ s ∈ l, s.kind = 0) → inWeek l k = 0
  | [], _, _ => rfl
  | s :: l, k, h => by
    have ih := inWeek_rest l k fun x m => h x (List.mem_cons_of_mem _ m)
    unfold inWeek at ih ⊢
    rw [List.map_cons, List.sum_cons, ih, h s (List.mem_cons_self ..)]
    rfl
theorem weekRows_zero : ∀ (l : List Nat) (k : Nat), (∀ d ∈ l, d = 0) → weekRows k 0 l = []
  | [], _, _ => rfl
  | d :: l, k, h => by
    have e : d = 0 := h d (List.mem_cons_self ..)
    subst e
    rw [weekRows, weekRows_zero l (k + 1) fun x m => h x (List.mem_cons_of_mem _ m)]
    rfl
theorem report_none (t : Told) (h : firstWork (line t) = none) : report t = [] := by
  unfold report
  simp only [h]
theorem report_some (t : Told) (w : Nat) (h : firstWork (line t) = some w) : report t = sorted (breaks fresh (line t) ++ (perDay (total t) (0, 0) 0 (days none (line t)) ++ (sixDays (total t) w ((weekly (line t)).filter fun r => decide (w < r.from_)) ++ (twoShort (total t) false ((weekly (line t)).filter fun r => decide (w < r.from_)) ++
      (debts (total t) [] ((line t).filter fun r => decide (w < r.from_)) ++ weeks (line t) (total t)))))) := by
  unfold report
  simp only [h]
theorem allBroken_none (t : Told) (h : firstWork (line t) = none) : allBroken t = [] := by
  have k := firstWork_none _ h
  unfold allBroken missed late twice unpaid weeklyOf restsOf overWeeks byWeek
  simp only [h]
  rw [spells_rest _ _ rfl k, days_rest _ k, weekRows_zero]
  · simp [two, three, four, twoShort_nil, owed, dues]
  · intro d m
    obtain ⟨x, _, e⟩ := List.mem_map.mp m
    rw [← e]
    exact inWeek_rest _ _ k
theorem allBroken_perm (t : Told) (w : Nat) (h : firstWork (line t) = some w) : (allBroken t).Perm (breaks fresh (line t) ++ (perDay (total t) (0, 0) 0 (days none (line t)) ++ (sixDays (total t) w ((weekly (line t)).filter fun r => decide (w < r.from_)) ++ (twoShort (total t) false ((weekly (line t)).filter fun r => decide (w < r.from_)) ++
      (debts (total t) [] ((line t).filter fun r => decide (w < r.from_)) ++ weeks (line t) (total t)))))) := by
  unfold allBroken
  rw [weekly_is, debts_is _ _ _ _ (fun d m => by simp at m), breaks_spells, weeks_is]
  have e1 : weeklyOf (line t) = weeklyRests w (line t) := by unfold weeklyOf restsOf weeklyRests; simp only [h]
  have e2 : restsOf (line t) = rests w (line t) := by unfold restsOf; simp only [h]
  have e3 : late (total t) (line t) = sixDays (total t) w (weeklyRests w (line t)) := by unfold late; simp only [h, e1]
  have e4 : twice (total t) (line t) = twoShort (total t) false (weeklyRests w (line t)) := by unfold twice; rw [e1]
  have e5 : unpaid (total t) (line t) = dues (total t) (owed (total t) [] (rests w (line t))) := by unfold unpaid; rw [e2]
  rw [e3, e4, e5]
  simp only [List.append_assoc]
  refine List.Perm.append_left _ ?_
  rw [← List.append_assoc (three _ _), ← List.append_assoc (two _ _)]
  exact List.Perm.append_right _ (perDay_perm _ _ _ _).symm
theorem report_is (t : Told) (s : List Broken) (h : Rising s) (p : s.Perm (allBroken t)) : s = report t := by
  cases e : firstWork (line t) with
  | none =>
    rw [report_none t e]
    rw [allBroken_none t e] at p
    exact p.eq_nil
  | some w =>
    rw [report_some t w e]
    exact sorted_of_perm h p (allBroken_perm t w e)
/-! ### calls read off a list -/
def flat (c : List (List Int)) : List Int := match c with
  | [x] => x
  | [x, r] => x ++ ((r.length : Int) :: r)
  | _ => []
theorem whole_id (c : List (List Int)) : PyKg70.whole c = c := by
  unfold PyKg70.whole
  split <;> rfl
theorem row_is {l x t : List Int} (h : PyFlat.row l = some (x, t)) : l = (x.length : Int) :: (x ++ t) := by
  cases l with
  | nil => simp [PyFlat.row] at h
  | cons n r =>
    unfold PyFlat.row at h
    dsimp only at h
    by_cases c : 0 ≤ n ∧ n.toNat ≤ r.length
    · rw [if_pos c] at h
      cases h
      rw [List.take_append_drop, List.length_take, Nat.min_eq_left c.2]
      have : ((n.toNat : Nat) : Int) = n := Int.toNat_of_nonneg c.1
      rw [this]
    · rw [if_neg c] at h
      cases h
theorem call_zero {sh : Int → Option (Nat × Nat)} {p : Int} {r t : List Int} {n : Nat} {c : List (List Int)} (hs : sh p = some (n, 0)) (h : PyFlat.call sh (p :: r) = some (c, t)) : c = [p :: r.take n] ∧ r = r.take n ++ t ∧ (r.take n).length = n := by
  unfold PyFlat.call at h
  dsimp only at h
  rw [hs] at h
  dsimp only at h
  split at h
  · cases h
  · rename_i g
    simp only [PyFlat.rows] at h
    cases h
    refine ⟨rfl, (List.take_append_drop n r).symm, ?_⟩
    rw [List.length_take]
    omega
theorem call_one {sh : Int → Option (Nat × Nat)} {p : Int} {r t : List Int} {c : List (List Int)} (hs : sh p = some (0, 1)) (h : PyFlat.call sh (p :: r) = some (c, t)) : ∃ x, c = [[p], x] ∧ r = (x.length : Int) :: (x ++ t) := by
  unfold PyFlat.call at h
  dsimp only at h
  rw [hs] at h
  dsimp only at h
  split at h
  · cases h
  · simp only [PyFlat.rows, List.drop_zero] at h
    cases e : PyFlat.row r with
    | none =>
      rw [e] at h
      cases h
    | some y =>
      obtain ⟨x, s⟩ := y
      rw [e] at h
      cases h
      exact ⟨x, rfl, row_is e⟩
theorem call_flat {l t : List Int} {c : List (List Int)} (h : PyFlat.call PyKg70.shape l = some (c, t)) : l = flat c ++ t ∧ flat c ≠ [] := by
  cases l with
  | nil => simp [PyFlat.call] at h
  | cons p r =>
    have zero : ∀ n, PyKg70.shape p = some (n, 0) → p :: r = flat c ++ t ∧ flat c ≠ [] := fun n hs => by
      obtain ⟨e1, e2, _⟩ := call_zero hs h
      rw [e1]
      refine ⟨?_, by simp [flat]⟩
      show p :: r = p :: (r.take n ++ t)
      rw [← e2]
    have one : PyKg70.shape p = some (0, 1) → p :: r = flat c ++ t ∧ flat c ≠ [] := fun hs => by
      obtain ⟨x, e1, e2⟩ := call_one hs h
      rw [e1, e2]
      exact ⟨by simp [flat], by simp [flat]⟩
    by_cases h1 : p = 1
    · exact zero 0 (by rw [h1]; rfl)
    by_cases h2 : p = 2
    · exact one (by rw [h2]; rfl)
    by_cases h3 : p = 3
    · exact zero 1 (by rw [h3]; rfl)
    by_cases h4 : p = 4
    · exact zero 0 (by rw [h4]; rfl)
    by_cases h5 : p = 5
    · exact zero 0 (by rw [h5]; rfl)
    by_cases h6 : p = 6
    · exact zero 0 (by rw [h6]; rfl)
    by_cases h7 : p = 7
    · exact zero 1 (by rw [h7]; rfl)
    · have : PyKg70.shape p = none := by unfold PyKg70.shape; simp [h1, h2, h3, h4, h5, h6, h7]
      unfold PyFlat.call at h
      dsimp only at h
      rw [this] at h
      cases h
theorem calls_flat : ∀ (f : Nat) (l : List Int) (cs : List (List (List Int))), PyFlat.calls PyKg70.shape f l = some cs → l = cs.flatMap flat
  | f, [], cs, h => by
    cases f <;> (simp [PyFlat.calls] at h; subst h; rfl)
  | 0, _ :: _, cs, h => by simp [PyFlat.calls] at h
  | f + 1, p :: r, cs, h => by
    rw [PyFlat.calls] at h
    cases e : PyFlat.call PyKg70.shape (p :: r) with
    | none =>
      rw [e] at h
      cases h
    | some y =>
      obtain ⟨c, t⟩ := y
      rw [e] at h
      dsimp only at h
      cases e2 : PyFlat.calls PyKg70.shape f t with
      | none =>
        rw [e2] at h
        cases h
      | some ds =>
        rw [e2] at h
        cases h
        rw [List.flatMap_cons, ← calls_flat f t ds e2]
        exact (call_flat e).1
/-- what is handed in: some calls, each of them one that may be asked, one behind another -/
theorem asked_calls (l : List Int) (h : PyKg70.answers_asked l = true) : ∃ cs : List (List (List Int)), l = cs.flatMap flat ∧ (∀ c ∈ cs, Kg70Neutral.asked1 c = true) ∧ cs.length ≤ 60 ∧
    PyKg70.answers l = PyFlat.told (PyFlat.played Kg70Neutral.step Kg70Neutral.start cs) ∧ (PyKg70.answers l).length ≤ 10000000 := by
  unfold PyKg70.answers_asked at h
  cases e : PyFlat.calls PyKg70.shape l.length l with
  | none =>
    rw [e] at h
    cases h
  | some cs =>
    rw [e] at h
    have w : cs.map PyKg70.whole = cs := by
      have : PyKg70.whole = id := funext whole_id
      rw [this, List.map_id]
    dsimp only at h
    rw [w] at h
    simp only [Bool.and_eq_true] at h
    obtain ⟨⟨⟨⟨_, h2⟩, _⟩, h4⟩, h5⟩ := h
    refine ⟨cs, calls_flat _ _ _ e, fun c m => ?_, of_decide_eq_true h2, ?_, of_decide_eq_true h5⟩
    · unfold Kg70Neutral.asked at h4
      rw [Bool.and_eq_true] at h4
      exact List.all_eq_true.mp h4.1 c m
    · unfold PyKg70.answers PyKg70.calls
      rw [e]
      dsimp only
      rw [w]
end Dh

end
section
set_option autoImplicit false
namespace Dh
open Kg70
/-! ### weeks: a stretch shared out -/
def addShare (s e : Nat) : Nat → List Nat → List Nat
  | _, [] => []
  | k, d :: l => (d + (min e ((k + 1) * WEEK) - max s (k * WEEK))) :: addShare s e (k + 1) l
theorem addShare_get (s e : Nat) : ∀ (l : List Nat) (k i : Nat), (addShare s e k l)[i]? = (l[i]?).map fun d => d + (min e ((k + i + 1) * WEEK) - max s ((k + i) * WEEK))
  | [], k, i => by simp [addShare]
  | d :: l, k, 0 => by simp [addShare]
  | d :: l, k, i + 1 => by
    rw [addShare, List.getElem?_cons_succ, List.getElem?_cons_succ, addShare_get s e l (k + 1) i]
    have e1 : k + 1 + i = k + (i + 1) := by omega
    rw [e1]
theorem addShare_len (s e : Nat) : ∀ (l : List Nat) (k : Nat), (addShare s e k l).length = l.length
  | [], _ => rfl
  | d :: l, k => by rw [addShare, List.length_cons, List.length_cons, addShare_len s e l]
theorem addShare_none (s : Nat) (l : List Nat) : addShare s s 0 l = l := by
  refine List.ext_getElem? fun i => ?_
  rw [addShare_get]
  cases l[i]? with
  | none => rfl
  | some d =>
    simp only [Option.map_some, Option.some.injEq, WEEK]
    omega
/-- one turn of share_out's loop -/
theorem addShare_step (s t e : Nat) (l : List Nat) (v : Nat) (hs : s ≤ t) (ht : t < e) (hv : (addShare s t 0 l)[t / WEEK]? = some v) :
    (addShare s t 0 l).set (t / WEEK) (v + (min e ((t / WEEK + 1) * WEEK) - t)) = addShare s (min e ((t / WEEK + 1) * WEEK)) 0 l := by
  refine List.ext_getElem? fun i => ?_
  rw [List.getElem?_set, addShare_get, addShare_get]
  rw [addShare_get] at hv
  by_cases h : t / WEEK = i
  · subst h
    rw [if_pos rfl]
    have hlt : t / WEEK < (addShare s t 0 l).length := by
      rw [addShare_len]
      cases q : l[t / WEEK]? with
      | none => rw [q] at hv; cases hv
      | some d => exact (List.getElem?_eq_some_iff.mp q).1
    rw [if_pos hlt]
    cases q : l[t / WEEK]? with
    | none => rw [q] at hv; cases hv
    | some d =>
      rw [q] at hv
      simp only [Option.map_some, Option.some.injEq, WEEK, Nat.zero_add] at hv ⊢
      omega
  · rw [if_neg h]
    cases q : l[i]? with
    | none => rfl
    | some d =>
      simp only [Option.map_some, Option.some.injEq, WEEK, Nat.zero_add] at h ⊢
      omega
theorem nWeeks_le {a b : Nat} (h : a ≤ b) : nWeeks a ≤ nWeeks b := by
  simp only [nWeeks, WEEK]
  omega
theorem byWeek_more (l : List Stretch) (n : Nat) (t : Nat) (h : ∀ s ∈ l, s.till ≤ t) (hn : t ≤ n * WEEK) : ((List.range n).map (inWeek l)) ++ [0] = (List.range (n + 1)).map (inWeek l) := by
  rw [List.range_succ, List.map_append]
  congr 1
  show [0] = [inWeek l n]
  rw [inWeek_late l n t h hn]
theorem byWeek_share (l : List Stretch) (s : Stretch) (n : Nat) (h : s.kind = 1) : addShare s.from_ s.till 0 ((List.range n).map (inWeek l)) = (List.range n).map (inWeek (l ++ [s])) := by
  refine List.ext_getElem? fun i => ?_
  rw [addShare_get, List.getElem?_map, List.getElem?_map]
  by_cases c : i < n
  · rw [List.getElem?_range c]
    simp only [Option.map_some, Option.some.injEq]
    rw [inWeek_snoc]
    unfold share
    rw [if_pos h, Nat.zero_add]
  · rw [List.getElem?_eq_none (by rw [List.length_range]; omega)]
    rfl
theorem byWeek_idle (l : List Stretch) (s : Stretch) (n : Nat) (h : ¬ s.kind = 1) : (List.range n).map (inWeek l) = (List.range n).map (inWeek (l ++ [s])) := by
  refine List.map_congr_left fun k _ => ?_
  rw [inWeek_snoc]
  unfold share
  rw [if_neg h]
  rfl
theorem line_at : ∀ (l : List Stretch) (t : Nat) (k : Option Nat) (i : Nat) (x : Stretch), Line t k l → l[i]? = some x → x.from_ = endOf t (l.take i) ∧ endOf t (l.take (i + 1)) = x.till
  | [], _, _, _, _, _, h => by simp at h
  | s :: l, t, k, 0, x, ⟨h1, h2, h3, h4, h5⟩, h => by
    have e : s = x := Option.some.inj h
    subst e
    exact ⟨h1, by simp [endOf]⟩
  | s :: l, t, k, i + 1, x, ⟨h1, h2, h3, h4, h5⟩, h => by
    have := line_at l s.till _ i x h5 h
    exact this
theorem line_take : ∀ (l : List Stretch) (t : Nat) (k : Option Nat) (i : Nat), Line t k l → Line t k (l.take i)
  | _, _, _, 0, _ => trivial
  | [], _, _, _ + 1, _ => trivial
  | s :: l, t, k, i + 1, ⟨h1, h2, h3, h4, h5⟩ => ⟨h1, h2, h3, h4, line_take l s.till _ i h5⟩
theorem line_till {l : List Stretch} {i : Nat} (h : Line 0 none l) : ∀ s ∈ l.take i, s.till ≤ endOf 0 (l.take i) := fun s m => (till_le _ _ _ (line_take l 0 none i h) s m).2.2.1
/-- stretches side by side are unlike -/
theorem line_next : ∀ (l : List Stretch) (t : Nat) (k : Option Nat) (i : Nat) (x y : Stretch), Line t k l → l[i]? = some x → l[i + 1]? = some y → x.kind ≠ y.kind
  | [], _, _, _, _, _, _, h, _ => by simp at h
  | s :: l, t, k, 0, x, y, ⟨h1, h2, h3, h4, h5⟩, hx, hy => by
    have e : s = x := Option.some.inj hx
    subst e
    cases l with
    | nil => simp at hy
    | cons z r =>
      have e : z = y := Option.some.inj hy
      subst e
      exact fun q => h5.2.2.2.1 (by rw [q])
  | s :: l, t, k, i + 1, x, y, ⟨h1, h2, h3, h4, h5⟩, hx, hy => line_next l s.till _ i x y h5 hx hy
end Dh

end
section
set_option autoImplicit false
namespace Dh
open Kg70
/-! ### a line of calls, played -/
def stepT (t : Told) (c : List (List Int)) : Told := (Kg70Neutral.step t c).1
def after (t : Told) (cs : List (List (List Int))) : Told := cs.foldl stepT t
theorem played_app (t : Told) : ∀ (cs ds : List (List (List Int))) (t : Told), PyFlat.played Kg70Neutral.step t (cs ++ ds) = PyFlat.played Kg70Neutral.step t cs ++ PyFlat.played Kg70Neutral.step (after t cs) ds
  | [], ds, t => by simp [PyFlat.played, after]
  | c :: cs, ds, t => by
    rw [List.cons_append, PyFlat.played, PyFlat.played, List.cons_append, played_app t cs ds]
    rfl
theorem told_app (l m : List (List Int)) : PyFlat.told (l ++ m) = PyFlat.told l ++ PyFlat.told m := by
  unfold PyFlat.told
  rw [List.flatMap_append]
theorem told_snoc (t : Told) (cs : List (List (List Int))) (c : List (List Int)) : PyFlat.told (PyFlat.played Kg70Neutral.step t (cs ++ [c])) = PyFlat.told (PyFlat.played Kg70Neutral.step t cs) ++ (((Kg70Neutral.step (after t cs) c).2.length : Int) :: (Kg70Neutral.step (after t cs) c).2) := by
  rw [played_app t, told_app]
  simp [PyFlat.played, PyFlat.told]
theorem after_snoc (t : Told) (cs : List (List (List Int))) (c : List (List Int)) : after t (cs ++ [c]) = stepT (after t cs) c := by
  unfold after
  rw [List.foldl_append]
  rfl
/-- each call that may be asked -/
theorem asked_cases (c : List (List Int)) (h : Kg70Neutral.asked1 c = true) :
    (c = [[1]] ∨ (∃ l, c = [[2], l] ∧ l.length ≤ 400) ∨ (∃ n, c = [[3, n]]) ∨ c = [[4]] ∨ c = [[5]] ∨ c = [[6]] ∨ ∃ k, c = [[7, k]]) := by
  unfold Kg70Neutral.asked1 at h
  split at h
  · exact .inl rfl
  · rename_i l
    unfold Kg70Neutral.row at h
    rw [Bool.and_eq_true] at h
    exact .inr (.inl ⟨l, rfl, of_decide_eq_true h.2⟩)
  · rename_i n
    exact .inr (.inr (.inl ⟨n, rfl⟩))
  · exact .inr (.inr (.inr (.inl rfl)))
  · exact .inr (.inr (.inr (.inr (.inl rfl))))
  · exact .inr (.inr (.inr (.inr (.inr (.inl rfl)))))
  · rename_i k
    exact .inr (.inr (.inr (.inr (.inr (.inr ⟨k, rfl⟩)))))
  · cases h
theorem flat_pos (c : List (List Int)) (h : Kg70Neutral.asked1 c = true) : 1 ≤ (flat c).length := by
  rcases asked_cases c h with rfl | ⟨l, rfl, _⟩ | ⟨n, rfl⟩ | rfl | rfl | rfl | ⟨k, rfl⟩ <;> simp [flat]
end Dh

end
section
set_option Elab.async false
set_option linter.all false
set_option maxRecDepth 100000
set_option maxHeartbeats 4000000
/-! # Two rules more: sorted of triples of ints, of any number; xs[i] += e of a list -/
namespace SrtO
open PySem PySem.W PySem.Calls PyProof.Rows Builtin
section
variable {prog : Program} {w : World} {A : Around} {E : Value → Shared → Prop} {s : Shared}
/-- v is a tuple of three ints in the heap -/
def IsTri (h : Heap) (v : Value) (x y z : Int) : Prop := ∃ a o t u r n, v = .ref a ∧ h.get? a = some o ∧ o.cls = .type "tuple" ∧ o.data = .seq #[.int x t, .int y u, .int z r] n
theorem IsTri.keeps {h h' : Heap} {v : Value} {x y z : Int} (p : IsTri h v x y z) (k : ∀ b o, h.get? b = some o → o.cls = .type "tuple" → h'.get? b = some o) : IsTri h' v x y z := by
  obtain ⟨a, o, t, u, r, n, e, ho, hc, hd⟩ := p
  exact ⟨a, o, t, u, r, n, e, k _ _ ho hc, hc, hd⟩
def lex3 (p q : Int × Int × Int) : Bool := if p.1 = q.1 then (if p.2.1 = q.2.1 then decide (p.2.2 < q.2.2) else decide (p.2.1 < q.2.1)) else decide (p.1 < q.1)
theorem lex3_iff {p q : Int × Int × Int} : lex3 p q = true ↔ p.1 < q.1 ∨ (p.1 = q.1 ∧ (p.2.1 < q.2.1 ∨ (p.2.1 = q.2.1 ∧ p.2.2 < q.2.2))) := by
  unfold lex3
  by_cases e : p.1 = q.1
  · rw [if_pos e]
    by_cases e2 : p.2.1 = q.2.1
    · rw [if_pos e2, decide_eq_true_eq]
      omega
    · rw [if_neg e2, decide_eq_true_eq]
      omega
  · rw [if_neg e, decide_eq_true_eq]
    omega
theorem lex3_no {p q : Int × Int × Int} : lex3 p q = false ↔ ¬ (p.1 < q.1 ∨ (p.1 = q.1 ∧ (p.2.1 < q.2.1 ∨ (p.2.1 = q.2.1 ∧ p.2.2 < q.2.2)))) := by
  rw [← lex3_iff]
  cases lex3 p q <;> simp
theorem swo_lex3 {α : Type} (k : α → Int × Int × Int) : Swo fun v u => lex3 (k v) (k u) := by
  refine ⟨fun x y h => ?_, fun x y z h1 h2 => ?_⟩
  · have a := lex3_iff.mp h
    refine lex3_no.mpr ?_
    omega
  · have a := lex3_no.mp h1
    have b := lex3_no.mp h2
    refine lex3_no.mpr ?_
    omega
theorem tri_cmp {vs : List Value} {k : Value → Int × Int × Int} (hp : ∀ v ∈ vs, IsTri s.heap v (k v).1 (k v).2.1 (k v).2.2) : Cmp prog w A s (tuples' true) (fun p => p.1 ∈ vs) (lt2 fun v u => lex3 (k v) (k u)) := by
  intro p q hm hm'
  have h1 := hp _ hm
  have h2 := hp _ hm'
  show wpAny (model prog w) A (keyLt' (tuples' true) p.1 q.1) (fun r s' => s' = s ∧ r = lex3 (k p.1) (k q.1)) (fun _ _ => False) s
  unfold lex3
  generalize (k p.1).1 = x at h1 ⊢
  generalize (k p.1).2.1 = y at h1 ⊢
  generalize (k p.1).2.2 = z at h1 ⊢
  generalize (k q.1).1 = x' at h2 ⊢
  generalize (k q.1).2.1 = y' at h2 ⊢
  generalize (k q.1).2.2 = z' at h2 ⊢
  obtain ⟨a, o, t, u, r, n, e, ho, hc, hd⟩ := h1
  obtain ⟨a', o', t', u', r', n', e', ho', hc', hd'⟩ := h2
  rw [e, e']
  refine PySem.W.kat_lt ho hd ho' hd' ?_
  show PySem.W.KatLex prog w A true (decide (3 < 3)) _ [(.int x t, .int x' t'), (.int y u, .int y' u'), (.int z r, .int z' r')] 0 s
  refine PySem.W.kat_cons (SeqAt.EqAt.int_int x t x' t' prog w _ _ ?_)
  refine PySem.W.kat_go (fun e1 => ?_) (fun e1 => ?_)
  · have ex : x = x' := by simpa using e1
    refine PySem.W.kat_yes (PySem.W.kat_cons (SeqAt.EqAt.int_int y u y' u' prog w _ _ ?_))
    refine PySem.W.kat_go (fun e2 => ?_) (fun e2 => ?_)
    · have ey : y = y' := by simpa using e2
      refine PySem.W.kat_yes (PySem.W.kat_cons (SeqAt.EqAt.int_int z r z' r' prog w _ _ ?_))
      refine PySem.W.kat_go (fun e4 => ?_) (fun e4 => ?_)
      · have ez : z = z' := by simpa using e4
        have e3 : (if x = x' then (if y = y' then decide (z < z') else decide (y < y')) else decide (x < x')) = false := by
          rw [if_pos ex, if_pos ey, ez]
          exact decide_eq_false (Int.lt_irrefl _)
        exact PySem.W.kat_yes (PySem.W.kat_nil ⟨rfl, e3.symm⟩)
      · have e3 : (if x = x' then (if y = y' then decide (z < z') else decide (y < y')) else decide (x < x')) = decide (z < z') := by rw [if_pos ex, if_pos ey]
        refine PySem.W.kat_no (PySem.W.kat_one _ _ (PyProof.Rows.lt_int ?_))
        exact (show s = s ∧ decide (z < z') = (if x = x' then (if y = y' then decide (z < z') else decide (y < y')) else decide (x < x')) from ⟨rfl, e3.symm⟩)
    · have ey : ¬ y = y' := by simpa using e2
      have e3 : (if x = x' then (if y = y' then decide (z < z') else decide (y < y')) else decide (x < x')) = decide (y < y') := by rw [if_pos ex, if_neg ey]
      refine PySem.W.kat_no (PySem.W.kat_one _ _ (PyProof.Rows.lt_int ?_))
      exact (show s = s ∧ decide (y < y') = (if x = x' then (if y = y' then decide (z < z') else decide (y < y')) else decide (x < x')) from ⟨rfl, e3.symm⟩)
  · have ex : ¬ x = x' := by simpa using e1
    have e3 : (if x = x' then (if y = y' then decide (z < z') else decide (y < y')) else decide (x < x')) = decide (x < x') := if_neg ex
    exact PySem.W.kat_no (oneLt_int ⟨rfl, e3.symm⟩)
theorem firsts_tri {h : Heap} : ∀ {vs : List Value}, (∀ v ∈ vs, ∃ x y z, IsTri h v x y z) → ∃ fs : List Value, PySem.W.KatTups h vs fs ∧ fs.length = vs.length ∧ ∀ f ∈ fs, ∃ x t, f = Value.int x t
  | [], _ => ⟨[], PySem.W.KatTups.nil, rfl, fun _ hm => by simp at hm⟩
  | v :: vs, hp => by
    obtain ⟨fs, h1, h2, h3⟩ := firsts_tri (vs := vs) fun v' hm => hp v' (List.mem_cons_of_mem _ hm)
    obtain ⟨x, y, z, a, o, t, u, r, n, e, ho, hc, hd⟩ := hp v (List.mem_cons_self ..)
    subst e
    refine ⟨.int x t :: fs, PySem.W.KatTups.cons ho hc hd rfl h1, by rw [List.length_cons, List.length_cons, h2], fun f hm => ?_⟩
    rcases List.mem_cons.mp hm with rfl | hm
    · exact ⟨x, t, rfl⟩
    · exact h3 f hm
theorem tris_sortable {a : Addr} {vs : List Value} {k : Value → Int × Int × Int} (h0 : 0 < vs.length) (hp : ∀ v ∈ vs, IsTri s.heap v (k v).1 (k v).2.1 (k v).2.2) (ha : ∀ o, s.heap.get? a = some o → o.cls ≠ .type "tuple") : SortableO prog w A s a vs fun v u => lex3 (k v) (k u) := by
  intro h' keep
  have hp' : ∀ v ∈ vs, IsTri h' v (k v).1 (k v).2.1 (k v).2.2 := fun v hm => (hp v hm).keeps fun b o e c => keep b o (fun z => by subst z; exact ha o e c) e
  obtain ⟨fs, h1, h2, h3⟩ := firsts_tri fun v hm => ⟨_, _, _, hp' v hm⟩
  refine ⟨tuples' true, fun Q E hq => ?_, tri_cmp hp'⟩
  refine PySem.W.kat_kind (T := .type "int") h1 (by omega) (fun f hm => ?_) (by rfl) ?_
  · obtain ⟨x, t, rfl⟩ := h3 f hm
    exact PySem.W.Looks.now
  · have e : (Value.type "int" != Value.type "tuple") = true := by first | decide +kernel | rfl | decide
    rw [e]
    exact hq
theorem sorted_tris {l : Addr} {vs : List Value} {k : Value → Int × Int × Int} {Q : Value → Shared → Prop} (hl : s.heap.IsList l vs.toArray) (hz : vs.length ≤ sizeLine) (hp : ∀ v ∈ vs, IsTri s.heap v (k v).1 (k v).2.1 (k v).2.2)
    (h : ∀ (h' : Heap) (d : Addr) (out : List Value), Srtd (fun v u => lex3 (k v) (k u)) out → Stb (fun v u => lex3 (k v) (k u)) out vs → (∀ b o, s.heap.get? b = some o → h'.get? b = some o) → s.heap.objs.size ≤ d → (∃ n, h'.get? d = some (seqObj "list" out.toArray n)) → Q (.ref d) { s with heap := h' }) :
    wpAny (model prog w) A (call (.builtin "sorted") [.ref l]) Q E s := by
  refine sorted_ord (swo_lex3 k) hl hz (fun h2 h₁ a ha kk => ?_) fun out hs hb => ?_
  · refine tris_sortable (s := { s with heap := h₁ }) (by omega) (fun v hm => (hp v hm).keeps fun b o e _ => (kk b o e).2) fun o e => ?_
    have e' : some o = some (seqObj "list" vs.toArray 0) := e.symm.trans ha
    cases e'
    intro c
    exact absurd (Value.type.inj c) (by decide)
  · exact h _ _ out hs hb (fun b o e => sortedAll_old e) (Nat.le_succ _) (sortedAll_at s.heap vs out.toArray)
end
end SrtO
namespace L2
open PySem PySem.Spec PyProof.Rows
abbrev ltT (k : V → Int × Int × Int) (x y : V) : Bool := SrtO.lex3 (k x) (k y)
/-- sorted(xs), xs a list of triples of ints of any length (k says which): a new list, rising, of the same items -/
def rSorted3 (K : PySem.W.Frag) : List V → Hp → VK → Prop := fun vs H Q => ∃ (a : Addr) (xs : List V) (k : V → Int × Int × Int), vs = [V.ref a] ∧ SqL K H a xs ∧ (∀ x ∈ xs, ∃ t, x = V.ref t ∧ H t = some (.tup [.int (k x).1, .int (k x).2.1, .int (k x).2.2])) ∧
  ∀ ys p, SrtO.Srtd (ltT k) ys → ys.Perm xs → H p = none → Q (.ref p) (upd H p (.lst ys))
section
variable {X : Cx}
theorem vals3' {x y z : V} {us : List Value} (r : Vals [x, y, z] us) : ∃ u w' t', us = [u, w', t'] ∧ RelV x u ∧ RelV y w' ∧ RelV z t' := by
  cases r with
  | cons r1 r =>
    cases r with
    | cons r2 r =>
      cases r with
      | cons r3 r =>
        cases r
        exact ⟨_, _, _, rfl, r1, r2, r3⟩
theorem cr_sorted3 : CallR X (.builtin "sorted") (rSorted3 X.K) := by
  intro pins s σ H vs us Q I r h
  obtain ⟨a, xs, k, rfl, hs, hx, q⟩ := h
  obtain ⟨its, rv, hl, hz⟩ := I.list hs
  obtain ⟨u, rfl, ru⟩ := vals1 r
  obtain rfl : u = Value.ref a := ru
  obtain ⟨e1, e2⟩ := refs_back rv fun x m => by
    obtain ⟨t, e, _⟩ := hx x m
    exact ⟨t, e⟩
  refine SrtO.sorted_tris (k := fun u => k (backV u)) hl.isList (by rw [← rv.length]; exact hz) (fun v hv => ?_) fun h' d out h1 h2 kp hd hn => ?_
  · obtain ⟨t, rfl⟩ := e2 v hv
    have hm : V.ref t ∈ xs := by rw [e1]; exact List.mem_map.mpr ⟨_, hv, rfl⟩
    obtain ⟨t', e, ht⟩ := hx _ hm
    cases e
    obtain ⟨_, its2, r2, o, ho, hc, n, hd⟩ := I.hok _ _ ht
    obtain ⟨u1, u2, u3, rfl, ri, rj, rk⟩ := vals3' r2
    obtain ⟨t1, rfl⟩ := ri
    obtain ⟨t2, rfl⟩ := rj
    obtain ⟨t3, rfl⟩ := rk
    exact ⟨t, o, t1, t2, t3, n, rfl, ho, hc, hd⟩
  · have h3 : ∀ u ∈ out, ∃ a, u = Value.ref a := fun u hu => e2 u (h2.perm.mem_iff.mp hu)
    obtain ⟨n, hn⟩ := hn
    have hb : (out.map backV).Perm xs := by
      rw [e1]
      exact h2.perm.map backV
    refine ⟨.ref d, upd H d (.lst (out.map backV)), I.laid (t' := s.toks) kp hd ⟨?_, out, n, vals_back h3, hn⟩, rfl, q _ d (SrtO.srtd_map h1) hb (I.hok.fresh hd)⟩
    rw [hb.length_eq]
    exact hz
/-- xs[i] of a list, as a place to be changed -/
theorem get_list : PGet X (rIxL X.K) := by
  intro pins s σ H x y v u Q I rx ry h
  obtain ⟨p, xs, i, z, rfl, rfl, hq, he, q⟩ := h
  cases rx
  obtain ⟨t, rfl⟩ := ry
  obtain ⟨its, r, pl, hz⟩ := I.list hq
  obtain ⟨j, h1, h2, h3, h4, h5⟩ := atI_get he
  obtain ⟨w, ew, rw'⟩ := r.get h2
  have hl := r.length
  have hn := line63
  have fin : EP X pins σ Q w s := ⟨z, H, I, rw', q⟩
  by_cases h0 : 0 ≤ i
  · have hj : i.toNat = j := by
      rw [seqIndex_of h0 h5] at h1
      exact Option.some.inj h1
    exact wpAny_getItem_list pl.isList h0 (by omega) (by rw [hj]; simpa using ew) fin
  · have hj : (i + (its.toArray.size : Int)).toNat = j := by
      rw [seqIndex_neg (by omega) h4] at h1
      rw [List.size_toArray, ← hl]
      exact Option.some.inj h1
    exact wpAny_getItem_list_neg pl.isList (by omega) (by rw [List.size_toArray] <;> omega) (by omega) (by rw [hj]; simpa using ew) fin
end
end L2

end
section
set_option Elab.async false
set_option maxRecDepth 100000
set_option maxHeartbeats 4000000
namespace Dh
open PySem PySem.Spec PyProof.Rows L2
open Kg70 (Stretch Told line total Broken Run Day Debt)
def topS (i : Nat) : Stmt := PySem.Challenge.pw_drivershours_s01_answers.main.body.getD i (.Pass ⟨0, 0, 0, 0⟩)
abbrev s_stretches_of : Stmt := topS 4
abbrev N_stretches_of : List Str := ["told", "stretches", "at", "kind", "minutes", "begun"]
theorem sc_stretches_of : FnScope N_stretches_of ["told"] (defScope s_stretches_of) := ⟨rfl, rfl, rfl, by decide +kernel, rfl, by decide +kernel, by decide +kernel⟩
abbrev s_end_of : Stmt := topS 5
abbrev N_end_of : List Str := ["told", "kind", "minutes"]
theorem sc_end_of : FnScope N_end_of ["told"] (defScope s_end_of) := ⟨rfl, rfl, rfl, by decide +kernel, rfl, by decide +kernel, by decide +kernel⟩
abbrev s_first_work : Stmt := topS 6
abbrev N_first_work : List Str := ["stretches", "kind", "start", "stop"]
theorem sc_first_work : FnScope N_first_work ["stretches"] (defScope s_first_work) := ⟨rfl, rfl, rfl, by decide +kernel, rfl, by decide +kernel, by decide +kernel⟩
abbrev s_Spell_init : Stmt := inClass (topS 12) 0
abbrev N_Spell_init : List Str := ["self"]
theorem sc_Spell_init : FnScope N_Spell_init ["self"] (defScope s_Spell_init) := ⟨rfl, rfl, rfl, by decide +kernel, rfl, by decide +kernel, by decide +kernel⟩
abbrev s_Spell_drive : Stmt := inClass (topS 12) 1
abbrev N_Spell_drive : List Str := ["self", "start", "stop", "allowed"]
theorem sc_Spell_drive : FnScope N_Spell_drive ["self", "start", "stop"] (defScope s_Spell_drive) := ⟨rfl, rfl, rfl, by decide +kernel, rfl, by decide +kernel, by decide +kernel⟩
abbrev s_Spell_is_ended_by : Stmt := inClass (topS 12) 2
abbrev N_Spell_is_ended_by : List Str := ["self", "minutes"]
theorem sc_Spell_is_ended_by : FnScope N_Spell_is_ended_by ["self", "minutes"] (defScope s_Spell_is_ended_by) := ⟨rfl, rfl, rfl, by decide +kernel, rfl, by decide +kernel, by decide +kernel⟩
abbrev s_spells_of : Stmt := topS 13
abbrev N_spells_of : List Str := ["stretches", "spell", "spells", "kind", "start", "stop"]
theorem sc_spells_of : FnScope N_spells_of ["stretches"] (defScope s_spells_of) := ⟨rfl, rfl, rfl, by decide +kernel, rfl, by decide +kernel, by decide +kernel⟩
abbrev s_since_whole_break : Stmt := topS 14
abbrev N_since_whole_break : List Str := ["stretches", "spell"]
theorem sc_since_whole_break : FnScope N_since_whole_break ["stretches"] (defScope s_since_whole_break) := ⟨rfl, rfl, rfl, by decide +kernel, rfl, by decide +kernel, by decide +kernel⟩
abbrev s_missed_breaks : Stmt := topS 15
abbrev N_missed_breaks : List Str := ["stretches", "broken", "spell"]
theorem sc_missed_breaks : FnScope N_missed_breaks ["stretches"] (defScope s_missed_breaks) := ⟨rfl, rfl, rfl, by decide +kernel, rfl, by decide +kernel, by decide +kernel⟩
abbrev s_driving_by_week : Stmt := topS 20
abbrev N_driving_by_week : List Str := ["stretches", "driven", "kind", "start", "stop"]
theorem sc_driving_by_week : FnScope N_driving_by_week ["stretches"] (defScope s_driving_by_week) := ⟨rfl, rfl, rfl, by decide +kernel, rfl, by decide +kernel, by decide +kernel⟩
abbrev s_share_out : Stmt := topS 21
abbrev N_share_out : List Str := ["driven", "start", "stop", "at", "week", "till"]
theorem sc_share_out : FnScope N_share_out ["driven", "start", "stop"] (defScope s_share_out) := ⟨rfl, rfl, rfl, by decide +kernel, rfl, by decide +kernel, by decide +kernel⟩
abbrev s_driving_in_week : Stmt := topS 22
abbrev N_driving_in_week : List Str := ["stretches", "week", "driven"]
theorem sc_driving_in_week : FnScope N_driving_in_week ["stretches", "week"] (defScope s_driving_in_week) := ⟨rfl, rfl, rfl, by decide +kernel, rfl, by decide +kernel, by decide +kernel⟩
abbrev s_week_going_on : Stmt := topS 23
abbrev N_week_going_on : List Str := ["stretches", "end", "week", "driving"]
theorem sc_week_going_on : FnScope N_week_going_on ["stretches", "end"] (defScope s_week_going_on) := ⟨rfl, rfl, rfl, by decide +kernel, rfl, by decide +kernel, by decide +kernel⟩
abbrev s_overdriven_weeks : Stmt := topS 24
abbrev N_overdriven_weeks : List Str := ["stretches", "broken", "before", "week", "driving"]
theorem sc_overdriven_weeks : FnScope N_overdriven_weeks ["stretches"] (defScope s_overdriven_weeks) := ⟨rfl, rfl, rfl, by decide +kernel, rfl, by decide +kernel, by decide +kernel⟩
abbrev s_rests_behind_work : Stmt := topS 31
abbrev N_rests_behind_work : List Str := ["stretches", "work", "kind", "start", "stop"]
theorem sc_rests_behind_work : FnScope N_rests_behind_work ["stretches"] (defScope s_rests_behind_work) := ⟨rfl, rfl, rfl, by decide +kernel, rfl, by decide +kernel, by decide +kernel⟩
abbrev s_weekly_rests : Stmt := topS 32
abbrev N_weekly_rests : List Str := ["rests", "start", "stop"]
theorem sc_weekly_rests : FnScope N_weekly_rests ["rests"] (defScope s_weekly_rests) := ⟨rfl, rfl, rfl, by decide +kernel, rfl, by decide +kernel, by decide +kernel⟩
abbrev s_is_short : Stmt := topS 33
abbrev N_is_short : List Str := ["start", "stop", "end"]
theorem sc_is_short : FnScope N_is_short ["start", "stop", "end"] (defScope s_is_short) := ⟨rfl, rfl, rfl, by decide +kernel, rfl, by decide +kernel, by decide +kernel⟩
abbrev s_lacking : Stmt := topS 34
abbrev N_lacking : List Str := ["start", "stop"]
theorem sc_lacking : FnScope N_lacking ["start", "stop"] (defScope s_lacking) := ⟨rfl, rfl, rfl, by decide +kernel, rfl, by decide +kernel, by decide +kernel⟩
abbrev s_late_weekly_rests : Stmt := topS 35
abbrev N_late_weekly_rests : List Str := ["stretches", "end", "work", "broken", "latest", "start", "stop"]
theorem sc_late_weekly_rests : FnScope N_late_weekly_rests ["stretches", "end"] (defScope s_late_weekly_rests) := ⟨rfl, rfl, rfl, by decide +kernel, rfl, by decide +kernel, by decide +kernel⟩
abbrev s_twice_short_weekly_rests : Stmt := topS 36
abbrev N_twice_short_weekly_rests : List Str := ["stretches", "end", "broken", "short_before", "start", "stop", "short"]
theorem sc_twice_short_weekly_rests : FnScope N_twice_short_weekly_rests ["stretches", "end"] (defScope s_twice_short_weekly_rests) := ⟨rfl, rfl, rfl, by decide +kernel, rfl, by decide +kernel, by decide +kernel⟩
abbrev s_spare_of : Stmt := topS 37
abbrev N_spare_of : List Str := ["minutes"]
theorem sc_spare_of : FnScope N_spare_of ["minutes"] (defScope s_spare_of) := ⟨rfl, rfl, rfl, by decide +kernel, rfl, by decide +kernel, by decide +kernel⟩
abbrev s_due_minute : Stmt := topS 38
abbrev N_due_minute : List Str := ["stop"]
theorem sc_due_minute : FnScope N_due_minute ["stop"] (defScope s_due_minute) := ⟨rfl, rfl, rfl, by decide +kernel, rfl, by decide +kernel, by decide +kernel⟩
abbrev s_debts_left : Stmt := topS 39
abbrev N_debts_left : List Str := ["debts", "start", "spare", "left", "made_up", "due", "minutes"]
theorem sc_debts_left : FnScope N_debts_left ["debts", "start", "spare"] (defScope s_debts_left) := ⟨rfl, rfl, rfl, by decide +kernel, rfl, by decide +kernel, by decide +kernel⟩
abbrev s_weekly_rests_not_made_up_for : Stmt := topS 40
abbrev N_weekly_rests_not_made_up_for : List Str := ["stretches", "end", "debts", "start", "stop", "due", "minutes"]
theorem sc_weekly_rests_not_made_up_for : FnScope N_weekly_rests_not_made_up_for ["stretches", "end"] (defScope s_weekly_rests_not_made_up_for) := ⟨rfl, rfl, rfl, by decide +kernel, rfl, by decide +kernel, by decide +kernel⟩
abbrev s_Day_init : Stmt := inClass (topS 55) 0
abbrev N_Day_init : List Str := ["self", "start"]
theorem sc_Day_init : FnScope N_Day_init ["self", "start"] (defScope s_Day_init) := ⟨rfl, rfl, rfl, by decide +kernel, rfl, by decide +kernel, by decide +kernel⟩
abbrev s_Day_take_rest : Stmt := inClass (topS 55) 1
abbrev N_Day_take_rest : List Str := ["self", "start", "stop"]
theorem sc_Day_take_rest : FnScope N_Day_take_rest ["self", "start", "stop"] (defScope s_Day_take_rest) := ⟨rfl, rfl, rfl, by decide +kernel, rfl, by decide +kernel, by decide +kernel⟩
abbrev s_Day_counted_rest : Stmt := inClass (topS 55) 2
abbrev N_Day_counted_rest : List Str := ["self"]
theorem sc_Day_counted_rest : FnScope N_Day_counted_rest ["self"] (defScope s_Day_counted_rest) := ⟨rfl, rfl, rfl, by decide +kernel, rfl, by decide +kernel, by decide +kernel⟩
abbrev s_Day_rest_kind : Stmt := inClass (topS 55) 3
abbrev N_Day_rest_kind : List Str := ["self", "end", "counted"]
theorem sc_Day_rest_kind : FnScope N_Day_rest_kind ["self", "end"] (defScope s_Day_rest_kind) := ⟨rfl, rfl, rfl, by decide +kernel, rfl, by decide +kernel, by decide +kernel⟩
abbrev s_Day_ends_in_weekly_rest : Stmt := inClass (topS 55) 4
abbrev N_Day_ends_in_weekly_rest : List Str := ["self"]
theorem sc_Day_ends_in_weekly_rest : FnScope N_Day_ends_in_weekly_rest ["self"] (defScope s_Day_ends_in_weekly_rest) := ⟨rfl, rfl, rfl, by decide +kernel, rfl, by decide +kernel, by decide +kernel⟩
abbrev s_days_of : Stmt := topS 56
abbrev N_days_of : List Str := ["stretches", "days", "day", "kind", "start", "stop"]
theorem sc_days_of : FnScope N_days_of ["stretches"] (defScope s_days_of) := ⟨rfl, rfl, rfl, by decide +kernel, rfl, by decide +kernel, by decide +kernel⟩
abbrev s_day_going_on : Stmt := topS 57
abbrev N_day_going_on : List Str := ["days", "day"]
theorem sc_day_going_on : FnScope N_day_going_on ["days"] (defScope s_day_going_on) := ⟨rfl, rfl, rfl, by decide +kernel, rfl, by decide +kernel, by decide +kernel⟩
abbrev s_overdriven_days : Stmt := topS 58
abbrev N_overdriven_days : List Str := ["days", "broken", "long_days", "day", "week"]
theorem sc_overdriven_days : FnScope N_overdriven_days ["days"] (defScope s_overdriven_days) := ⟨rfl, rfl, rfl, by decide +kernel, rfl, by decide +kernel, by decide +kernel⟩
abbrev s_too_short_rests : Stmt := topS 59
abbrev N_too_short_rests : List Str := ["days", "end", "broken", "day"]
theorem sc_too_short_rests : FnScope N_too_short_rests ["days", "end"] (defScope s_too_short_rests) := ⟨rfl, rfl, rfl, by decide +kernel, rfl, by decide +kernel, by decide +kernel⟩
abbrev s_surplus_short_rests : Stmt := topS 60
abbrev N_surplus_short_rests : List Str := ["days", "end", "broken", "short_rests", "day"]
theorem sc_surplus_short_rests : FnScope N_surplus_short_rests ["days", "end"] (defScope s_surplus_short_rests) := ⟨rfl, rfl, rfl, by decide +kernel, rfl, by decide +kernel, by decide +kernel⟩
abbrev s_are_stretches : Stmt := topS 67
abbrev N_are_stretches : List Str := ["numbers", "at"]
theorem sc_are_stretches : FnScope N_are_stretches ["numbers"] (defScope s_are_stretches) := ⟨rfl, rfl, rfl, by decide +kernel, rfl, by decide +kernel, by decide +kernel⟩
abbrev s_all_broken : Stmt := topS 68
abbrev N_all_broken : List Str := ["told", "stretches", "end", "days", "broken"]
theorem sc_all_broken : FnScope N_all_broken ["told"] (defScope s_all_broken) := ⟨rfl, rfl, rfl, by decide +kernel, rfl, by decide +kernel, by decide +kernel⟩
abbrev s_Driver_init : Stmt := inClass (topS 69) 0
abbrev N_Driver_init : List Str := ["self"]
theorem sc_Driver_init : FnScope N_Driver_init ["self"] (defScope s_Driver_init) := ⟨rfl, rfl, rfl, by decide +kernel, rfl, by decide +kernel, by decide +kernel⟩
abbrev s_Driver_begin : Stmt := inClass (topS 69) 1
abbrev N_Driver_begin : List Str := ["self"]
theorem sc_Driver_begin : FnScope N_Driver_begin ["self"] (defScope s_Driver_begin) := ⟨rfl, rfl, rfl, by decide +kernel, rfl, by decide +kernel, by decide +kernel⟩
abbrev s_Driver_add : Stmt := inClass (topS 69) 2
abbrev N_Driver_add : List Str := ["self", "numbers", "at"]
theorem sc_Driver_add : FnScope N_Driver_add ["self", "numbers"] (defScope s_Driver_add) := ⟨rfl, rfl, rfl, by decide +kernel, rfl, by decide +kernel, by decide +kernel⟩
abbrev s_Driver_drop : Stmt := inClass (topS 69) 3
abbrev N_Driver_drop : List Str := ["self", "n"]
theorem sc_Driver_drop : FnScope N_Driver_drop ["self", "n"] (defScope s_Driver_drop) := ⟨rfl, rfl, rfl, by decide +kernel, rfl, by decide +kernel, by decide +kernel⟩
abbrev s_Driver_report : Stmt := inClass (topS 69) 4
abbrev N_Driver_report : List Str := ["self", "broken", "numbers", "minute", "rule", "minutes"]
theorem sc_Driver_report : FnScope N_Driver_report ["self"] (defScope s_Driver_report) := ⟨rfl, rfl, rfl, by decide +kernel, rfl, by decide +kernel, by decide +kernel⟩
abbrev s_Driver_now : Stmt := inClass (topS 69) 5
abbrev N_Driver_now : List Str := ["self", "stretches", "end", "numbers"]
theorem sc_Driver_now : FnScope N_Driver_now ["self"] (defScope s_Driver_now) := ⟨rfl, rfl, rfl, by decide +kernel, rfl, by decide +kernel, by decide +kernel⟩
abbrev s_Driver_days : Stmt := inClass (topS 69) 6
abbrev N_Driver_days : List Str := ["self", "end", "days", "numbers", "day"]
theorem sc_Driver_days : FnScope N_Driver_days ["self"] (defScope s_Driver_days) := ⟨rfl, rfl, rfl, by decide +kernel, rfl, by decide +kernel, by decide +kernel⟩
abbrev s_Driver_week : Stmt := inClass (topS 69) 7
abbrev N_Driver_week : List Str := ["self", "k"]
theorem sc_Driver_week : FnScope N_Driver_week ["self", "k"] (defScope s_Driver_week) := ⟨rfl, rfl, rfl, by decide +kernel, rfl, by decide +kernel, by decide +kernel⟩
abbrev s_length_of_call : Stmt := topS 78
abbrev N_length_of_call : List Str := ["calls", "at"]
theorem sc_length_of_call : FnScope N_length_of_call ["calls", "at"] (defScope s_length_of_call) := ⟨rfl, rfl, rfl, by decide +kernel, rfl, by decide +kernel, by decide +kernel⟩
abbrev s_answer : Stmt := topS 79
abbrev N_answer : List Str := ["driver", "call"]
theorem sc_answer : FnScope N_answer ["driver", "call"] (defScope s_answer) := ⟨rfl, rfl, rfl, by decide +kernel, rfl, by decide +kernel, by decide +kernel⟩
abbrev s_answers : Stmt := topS 80
abbrev N_answers : List Str := ["calls", "driver", "numbers", "at", "length", "answered"]
theorem sc_answers : FnScope N_answers ["calls"] (defScope s_answers) := ⟨rfl, rfl, rfl, by decide +kernel, rfl, by decide +kernel, by decide +kernel⟩
/-! ### what the top holds -/
def IntG (mg : Str → Option Value) (x : Str) (n : Int) : Prop := ∃ t, mg x = some (.int n t)
theorem pe_k {X : Cx} {x : Str} {n : Int} {pos : Pos} (hg : Gl X x) (h : IntG X.mg x n) (hd : (x == ("__debug__" : Str)) = false := by decide) : PE X (.Name x pos) (tC (.int n)) := by
  obtain ⟨t, e⟩ := h
  exact pe_glob hg e ⟨_, rfl⟩ hd
structure Txt (K : PySem.W.Frag) (mg : Str → Option Value) (C_Spell C_Day C_Driver : Addr) : Prop where
  c_REST : IntG mg "REST" (0)
  c_DRIVING : IntG mg "DRIVING" (1)
  c_OTHER_WORK : IntG mg "OTHER_WORK" (2)
  c_WHOLE_BREAK : IntG mg "WHOLE_BREAK" (45)
  c_FIRST_PART : IntG mg "FIRST_PART" (15)
  c_SECOND_PART : IntG mg "SECOND_PART" (30)
  c_MOST_DRIVING_breaks : IntG mg "MOST_DRIVING_breaks" (270)
  c_WEEK_weeks : IntG mg "WEEK_weeks" (10080)
  c_MOST_IN_ONE : IntG mg "MOST_IN_ONE" (3360)
  c_MOST_IN_TWO : IntG mg "MOST_IN_TWO" (5400)
  c_WEEKLY_REST : IntG mg "WEEKLY_REST" (1440)
  c_WHOLE_WEEKLY_REST : IntG mg "WHOLE_WEEKLY_REST" (2700)
  c_SPARING_REST : IntG mg "SPARING_REST" (540)
  c_LONGEST_WITHOUT : IntG mg "LONGEST_WITHOUT" (8640)
  c_WEEKS_TO_MAKE_UP : IntG mg "WEEKS_TO_MAKE_UP" (3)
  c_DAY : IntG mg "DAY" (1440)
  c_DAY_REST : IntG mg "DAY_REST" (540)
  c_WHOLE_REST : IntG mg "WHOLE_REST" (660)
  c_REST_AHEAD : IntG mg "REST_AHEAD" (180)
  c_USUAL_DRIVING : IntG mg "USUAL_DRIVING" (540)
  c_MOST_DRIVING_daily : IntG mg "MOST_DRIVING_daily" (600)
  c_MOST_LONG_DAYS : IntG mg "MOST_LONG_DAYS" (2)
  c_MOST_SHORT_RESTS : IntG mg "MOST_SHORT_RESTS" (3)
  c_WHOLE : IntG mg "WHOLE" (0)
  c_SHORT : IntG mg "SHORT" (1)
  c_TOO_SHORT : IntG mg "TOO_SHORT" (2)
  c_UNDECIDED : IntG mg "UNDECIDED" (3)
  c_NO_DAY : IntG mg "NO_DAY" (-1)
  c_MOST_TOLD : IntG mg "MOST_TOLD" (400)
  c_MOST_MINUTES : IntG mg "MOST_MINUTES" (20000)
  c_LAST_WEEK : IntG mg "LAST_WEEK" (1000)
  c_NOT_ALLOWED : IntG mg "NOT_ALLOWED" (-1)
  c_TOO_MANY : IntG mg "TOO_MANY" (-5)
  c_BEGIN : IntG mg "BEGIN" (1)
  c_ADD : IntG mg "ADD" (2)
  c_DROP : IntG mg "DROP" (3)
  c_REPORT : IntG mg "REPORT" (4)
  c_NOW : IntG mg "NOW" (5)
  c_DAYS : IntG mg "DAYS" (6)
  c_WEEK_hours : IntG mg "WEEK_hours" (7)
  b_enumerate : mg "enumerate" = none
  b_len : mg "len" = none
  b_max : mg "max" = none
  b_min : mg "min" = none
  b_range : mg "range" = none
  b_sorted : mg "sorted" = none
  b_sum : mg "sum" = none
  g_Spell : mg "Spell" = some (.ref C_Spell)
  cl_Spell : Cls K C_Spell
  n_Spell_driving : NoAttr K C_Spell "driving"
  n_Spell_over_at : NoAttr K C_Spell "over_at"
  n_Spell_had_first_part : NoAttr K C_Spell "had_first_part"
  g_Day : mg "Day" = some (.ref C_Day)
  cl_Day : Cls K C_Day
  n_Day_start : NoAttr K C_Day "start"
  n_Day_driving : NoAttr K C_Day "driving"
  n_Day_had_rest_ahead : NoAttr K C_Day "had_rest_ahead"
  n_Day_ended : NoAttr K C_Day "ended"
  n_Day_rest_start : NoAttr K C_Day "rest_start"
  n_Day_rest_stop : NoAttr K C_Day "rest_stop"
  g_Driver : mg "Driver" = some (.ref C_Driver)
  cl_Driver : Cls K C_Driver
  n_Driver_told : NoAttr K C_Driver "told"
/-- a def of the top that keeps a promise, as its callers need it -/
def Kn (P : Program) (w : World) (K : PySem.W.Frag) (mg : Str → Option Value) (base : Heap) (k : Nat) (x : Str) (ps : List Str) (sp : Sp) : Prop :=
  ∃ f fd, FnOk P w K mg base CX0 k f fd ps sp ∧ mg x = some (.ref f) ∧ PySem.W.keepIn K (.ref f) = true ∧ Binds K fd ps []
/-- a method of the class at C; its __init__ -/
def Km (P : Program) (w : World) (K : PySem.W.Frag) (mg : Str → Option Value) (base : Heap) (C : Addr) (k : Nat) (m : Str) (ps : List Str) (sp : Sp) : Prop :=
  ∃ f fd, FnOk P w K mg base CX0 k f fd ps sp ∧ Meth K C m f ∧ Binds K fd ps []
def Ki (P : Program) (w : World) (K : PySem.W.Frag) (mg : Str → Option Value) (base : Heap) (C : Addr) (k : Nat) (ps : List Str) (sp : Sp) : Prop :=
  ∃ f fd, FnOk P w K mg base CX0 k f fd ps sp ∧ Mk K C f ∧ Binds K fd ps []
/-! ### heaps -/
theorem same_new {H H' : Hp} {p : Addr} {o : HO} (s : Same H H') (h : H p = none) : Same H (upd H' p o) := fun b x e => by
  rw [upd_ne (ne_of_none e h)]
  exact s b x e
theorem same_back {H H' : Hp} {p : Addr} (s : Same H H') (h : H' p = none) : H p = none := by
  cases q : H p with
  | none => rfl
  | some o => rw [s p o q] at h; cases h
theorem same_next {H H' : Hp} {p : Addr} {o : HO} (s : Same H H') (h : H' p = none) : Same H (upd H' p o) := same_new s (same_back s h)
theorem if_true_of {c : Bool} {A B : Prop} (hc : c = true) (h : A) : if c = true then A else B := by
  rw [if_pos hc]
  exact h
theorem if_false_of {c : Bool} {A B : Prop} (hc : c = false) (h : B) : if c = true then A else B := by
  rw [hc, if_neg Bool.false_ne_true]
  exact h
theorem yes_of {σ : L2.St} {H : Hp} {A B : Hp → Prop} (h : A H) : tYes σ H (fun b H3 => if b = true then A H3 else B H3) := by
  show (if true = true then A H else B H)
  rw [if_pos rfl]
  exact h
/-- a test of numbers -/
theorem if_dec {c : Prop} [Decidable c] {A B : Prop} (h1 : c → A) (h2 : ¬ c → B) : if decide c = true then A else B := by
  by_cases h : c
  · exact if_true_of (decide_eq_true h) (h1 h)
  · exact if_false_of (decide_eq_false h) (h2 h)
theorem if_ndec {c : Prop} [Decidable c] {A B : Prop} (h1 : ¬ c → A) (h2 : c → B) : if (!decide c) = true then A else B := by
  by_cases h : c
  · exact if_false_of (by rw [decide_eq_true h]; rfl) (h2 h)
  · exact if_true_of (by rw [decide_eq_false h]; rfl) (h1 h)
theorem int_eq {m n : Int} : V.int m = V.int n ↔ m = n := ⟨fun h => by injection h, fun h => by rw [h]⟩
abbrev ivs (l : List Int) : List V := l.map V.int
/-- tuples of ivs, at ps -/
def Tups (H : Hp) : List Addr → List (List Int) → Prop
  | [], [] => True
  | p :: ps, r :: rs => H p = some (.tup (ivs r)) ∧ Tups H ps rs
  | _, _ => False
theorem Tups.len {H : Hp} : ∀ {ps : List Addr} {rs : List (List Int)}, Tups H ps rs → ps.length = rs.length
  | [], [], _ => rfl
  | _ :: _, _ :: _, h => congrArg (· + 1) h.2.len
theorem Tups.get {H : Hp} : ∀ {ps : List Addr} {rs : List (List Int)} {i : Nat} {r : List Int}, Tups H ps rs → rs[i]? = some r → ∃ p, ps[i]? = some p ∧ H p = some (.tup (ivs r))
  | [], [], _, _, _, e => by simp at e
  | p :: _, r :: _, 0, x, h, e => by
    have e1 : r = x := Option.some.inj e
    subst e1
    exact ⟨p, rfl, h.1⟩
  | _ :: _, _ :: _, i + 1, _, h, e => Tups.get (i := i) h.2 e
theorem Tups.sub {H H' : Hp} : ∀ {ps : List Addr} {rs : List (List Int)}, Tups H ps rs → (∀ p xs, H p = some (.tup xs) → H' p = some (.tup xs)) → Tups H' ps rs
  | [], [], _, _ => trivial
  | _ :: _, _ :: _, h, k => ⟨k _ _ h.1, h.2.sub k⟩
theorem Tups.same {H H' : Hp} {ps : List Addr} {rs : List (List Int)} (h : Tups H ps rs) (s : Same H H') : Tups H' ps rs := h.sub fun p xs e => s p _ e
theorem Tups.app {H : Hp} : ∀ {ps qs : List Addr} {rs ts : List (List Int)}, Tups H ps rs → Tups H qs ts → Tups H (ps ++ qs) (rs ++ ts)
  | [], _, [], _, _, h => h
  | _ :: _, _, _ :: _, _, h, k => ⟨h.1, h.2.app k⟩
theorem Tups.snoc {H : Hp} {ps : List Addr} {rs : List (List Int)} {p : Addr} {r : List Int} (h : Tups H ps rs) (k : H p = some (.tup (ivs r))) : Tups H (ps ++ [p]) (rs ++ [r]) := h.app ⟨k, trivial⟩
theorem Tups.take {H : Hp} : ∀ (n : Nat) {ps : List Addr} {rs : List (List Int)}, Tups H ps rs → Tups H (ps.take n) (rs.take n)
  | 0, _, _, _ => trivial
  | _ + 1, [], [], _ => trivial
  | n + 1, _ :: _, _ :: _, h => ⟨h.1, h.2.take n⟩
theorem Tups.drop {H : Hp} : ∀ (n : Nat) {ps : List Addr} {rs : List (List Int)}, Tups H ps rs → Tups H (ps.drop n) (rs.drop n)
  | 0, _, _, h => h
  | _ + 1, [], [], _ => trivial
  | n + 1, _ :: _, _ :: _, h => h.2.drop n
theorem Tups.init {H : Hp} {ps : List Addr} {rs : List (List Int)} (h : Tups H ps rs) : Tups H ps.dropLast rs.dropLast := by
  rw [List.dropLast_eq_take, List.dropLast_eq_take, h.len]
  exact h.take _
/-- a list of such at a, to be read; one that may be changed -/
def RowsR (K : PySem.W.Frag) (H : Hp) (a : Addr) (l : List (List Int)) : Prop := ∃ ps : List Addr, SqL K H a (ps.map V.ref) ∧ Tups H ps l
def RowsW (H : Hp) (a : Addr) (l : List (List Int)) : Prop := ∃ ps : List Addr, H a = some (.lst (ps.map V.ref)) ∧ Tups H ps l
theorem RowsW.read {K : PySem.W.Frag} {H : Hp} {a : Addr} {l : List (List Int)} (h : RowsW H a l) : RowsR K H a l := by
  obtain ⟨ps, e, t⟩ := h
  exact ⟨ps, SqL.of e, t⟩
theorem RowsW.same {H H' : Hp} {a : Addr} {l : List (List Int)} (h : RowsW H a l) (s : Same H H') : RowsW H' a l := by
  obtain ⟨ps, e, t⟩ := h
  exact ⟨ps, s _ _ e, t.same s⟩
theorem RowsR.same {K : PySem.W.Frag} {H H' : Hp} {a : Addr} {l : List (List Int)} (h : RowsR K H a l) (s : Same H H') : RowsR K H' a l := by
  obtain ⟨ps, e, t⟩ := h
  exact ⟨ps, s.seq e, t.same s⟩
theorem RowsW.nil {H : Hp} {a : Addr} : RowsW (upd H a (.lst [])) a [] := ⟨[], upd_same, trivial⟩
/-- the new list that a def gives -/
structure NewRows (H H' : Hp) (p : Addr) (l : List (List Int)) : Prop where
  same : Same H H'
  new : H p = none
  rows : RowsW H' p l
theorem lst_ne_tup {H : Hp} {a p : Addr} {xs ys : List V} (h : H a = some (.lst xs)) (k : H p = some (.tup ys)) : p ≠ a := ne_of k h (by intro z; cases z)
/-- a tuple laid, then put behind a list -/
theorem RowsW.put {H : Hp} {a t : Addr} {ps : List Addr} {l : List (List Int)} {r : List Int} (e : H a = some (.lst (ps.map V.ref))) (h : Tups H ps l) (n : H t = none) :
    RowsW (upd (upd H t (.tup (ivs r))) a (.lst (ps.map V.ref ++ [V.ref t]))) a (l ++ [r]) := by
  refine ⟨ps ++ [t], ?_, ?_⟩
  · rw [upd_same, List.map_append]
    rfl
  · have hta : t ≠ a := fun q => by rw [q, e] at n; cases n
    refine Tups.snoc (h.sub fun p xs q => ?_) ?_
    · rw [upd_ne (lst_ne_tup e q), upd_ne (ne_of_none q n)]
      exact q
    · rw [upd_ne hta, upd_same]
theorem line24 : (1000000 : Nat) < sizeLine := by decide
theorem szl {n : Nat} (h : n ≤ 1000000) : n < sizeLine := Nat.lt_of_le_of_lt h line24
theorem szle {n : Nat} (h : n ≤ 1000000) : n ≤ sizeLine := Nat.le_of_lt (szl h)
theorem get_map {α : Type} {f : α → List Int} {l : List α} {i : Nat} {r : List Int} (h : (l.map f)[i]? = some r) : ∃ x, l[i]? = some x ∧ f x = r := by
  rw [List.getElem?_map] at h
  cases e : l[i]? with
  | none => rw [e] at h; cases h
  | some x => rw [e] at h; exact ⟨x, rfl, Option.some.inj h⟩
theorem ref_map {ps : List Addr} {i : Nat} {v : V} (h : (ps.map V.ref)[i]? = some v) : ∃ p, ps[i]? = some p ∧ v = V.ref p := by
  rw [List.getElem?_map] at h
  cases e : ps[i]? with
  | none => rw [e] at h; cases h
  | some x => rw [e] at h; exact ⟨x, rfl, (Option.some.inj h).symm⟩
/-- an item of a walked list of tuples -/
theorem Tups.item {α : Type} {f : α → List Int} {H : Hp} {ps : List Addr} {l : List α} {i : Nat} {v : V} (h : Tups H ps (l.map f)) (e : (ps.map V.ref)[i]? = some v) : ∃ p x, v = V.ref p ∧ l[i]? = some x ∧ H p = some (.tup (ivs (f x))) := by
  obtain ⟨p, e1, rfl⟩ := ref_map e
  have hl : i < l.length := by
    have := h.len
    rw [List.length_map] at this
    rw [← this]
    exact (List.getElem?_eq_some_iff.mp e1).1
  have e2 : (l.map f)[i]? = some (f l[i]) := by rw [List.getElem?_map, List.getElem?_eq_getElem hl]; rfl
  obtain ⟨q, e3, hq⟩ := h.get e2
  rw [e1] at e3
  cases e3
  exact ⟨p, l[i], rfl, List.getElem?_eq_getElem hl, hq⟩
theorem take_one {α : Type} {l : List α} {i : Nat} {x : α} (h : l[i]? = some x) : l.take (i + 1) = l.take i ++ [x] := by
  rw [List.take_add_one, h]
  rfl
theorem drop_one {α : Type} {l : List α} {i : Nat} {x : α} (h : l[i]? = some x) : l.drop i = x :: l.drop (i + 1) := by
  obtain ⟨hi, e⟩ := List.getElem?_eq_some_iff.mp h
  rw [List.drop_eq_getElem_cons hi, e]
theorem lt_of_get {α : Type} {l : List α} {i : Nat} {x : α} (h : l[i]? = some x) : i < l.length := (List.getElem?_eq_some_iff.mp h).1
theorem Tups.last {H : Hp} : ∀ {rs : List (List Int)} {ps : List Addr} {r : List Int}, Tups H ps (rs ++ [r]) → ∃ qs p, ps = qs ++ [p] ∧ Tups H qs rs ∧ H p = some (.tup (ivs r))
  | [], [p], _, h => ⟨[], p, rfl, trivial, h.1⟩
  | [], p :: q :: l, _, h => h.2.elim
  | _ :: _, [], _, h => h.elim
  | x :: rs, p :: ps, r, h => by
    obtain ⟨qs, q, e, k1, k2⟩ := Tups.last (rs := rs) (ps := ps) (r := r) h.2
    exact ⟨p :: qs, q, by rw [e]; rfl, ⟨h.1, k1⟩, k2⟩
/-- all but what stands at o is as it was -/
def But (o : Addr) (H H' : Hp) : Prop := ∀ b u, H b = some u → b ≠ o → H' b = some u
theorem but_same {H H' H0 : Hp} {o : Addr} (s : Same H0 H) (n : H0 o = none) (b : But o H H') : Same H0 H' := fun c u e => b c u (s c u e) (ne_of_none e n)
theorem RowsR.but {K : PySem.W.Frag} {H H' : Hp} {a o : Addr} {l : List (List Int)} {xs : List V} (h : RowsR K H a l) (n : a ≠ o) (ho : H o = some (.lst xs)) (b : But o H H') : RowsR K H' a l := by
  obtain ⟨ps, e, t⟩ := h
  refine ⟨ps, ?_, t.sub fun p xs q => b p _ q (lst_ne_tup ho q)⟩
  rcases e with (e | ⟨u, e⟩) | e
  · exact .inl (.inl (b _ _ e n))
  · exact .inl (.inr ⟨u, b _ _ e n⟩)
  · exact .inr e
/-- what an expression of numbers gives, the heap as it is -/
abbrev Gv (t : TE) (σ : L2.St) (H : Hp) (v : V) : Prop := ∀ Q : VK, Q v H → t σ H Q
theorem gv_var {i : Nat} {σ : L2.St} {H : Hp} {v : V} (h : σ[i]? = some (some v) := by rfl) : Gv (tVar i) σ H v := fun Q q => ⟨_, h, q⟩
theorem gv_c {σ : L2.St} {H : Hp} {v : V} : Gv (tC v) σ H v := fun Q q => q
theorem gv_op {r : R2} {f : Int → Int → V} {ta tb : TE} {σ : L2.St} {H : Hp} {x y : Int} (ha : Gv ta σ H (.int x)) (hb : Gv tb σ H (.int y)) (hr : r = rI0 f := by rfl) : Gv (tOp r ta tb) σ H (f x y) := by
  subst hr
  exact fun Q q => ha _ (hb _ ⟨x, y, rfl, rfl, q⟩)
theorem gv_mul {ta tb : TE} {σ : L2.St} {H : Hp} {x y : Int} (ha : Gv ta σ H (.int x)) (hb : Gv tb σ H (.int y)) (h : -(2 ^ 64) < x ∧ x < 2 ^ 64) : Gv (tOp (rI CMul fun i j => .int (i * j)) ta tb) σ H (.int (x * y)) :=
  fun Q q => ha _ (hb _ ⟨x, y, rfl, rfl, .inl h, q⟩)
theorem gv_fdiv {ta tb : TE} {σ : L2.St} {H : Hp} {x y : Int} (ha : Gv ta σ H (.int x)) (hb : Gv tb σ H (.int y)) (h : 0 < y ∧ y < 1073741824) : Gv (tOp (rI CDiv fun i j => .int (i / j)) ta tb) σ H (.int (x / y)) :=
  fun Q q => ha _ (hb _ ⟨x, y, rfl, rfl, h, q⟩)
/-- a tuple of three numbers put behind a list of such: xs.append((a, b, c)) -/
theorem app3 {K : PySem.W.Frag} {D : Ends} {σ : L2.St} {H : Hp} {i : Nat} {o : Addr} {l : List (List Int)} {ta tb tc : TE} {x y z : Int} (hi : σ[i]? = some (some (.ref o))) (ho : RowsW H o l) (hl : l.length ≤ 100000)
    (ha : Gv ta σ H (.int x)) (hb : Gv tb σ H (.int y)) (hc : Gv tc σ H (.int z)) (k : ∀ H', RowsW H' o (l ++ [[x, y, z]]) → But o H H' → D.nx σ H') :
    tDrop (tBM K "list" rAppend (tVar i) (tCons (tTup (tCons ta (tCons tb (tCons tc tNil)))) tNil)) D σ H := by
  obtain ⟨ps, e, t⟩ := ho
  refine ⟨_, hi, .inl ⟨rfl, _, SqL.of e⟩, ha _ (hb _ (hc _ ⟨(by show 3 ≤ sizeLine; decide), fun p hp => ?_⟩))⟩
  have hpo : p ≠ o := fun q => by rw [q, e] at hp; cases hp
  refine ⟨o, _, _, rfl, rfl, (upd_ne hpo.symm).trans e, ?_, ?_⟩
  · rw [List.length_map, t.len]
    exact szl (by omega)
  · exact k _ (RowsW.put (r := [x, y, z]) e t hp) fun b u q nb => by
      rw [upd_ne nb, upd_ne (ne_of_none q hp)]
      exact q
/-- the same with two -/
theorem app2 {K : PySem.W.Frag} {D : Ends} {σ : L2.St} {H : Hp} {i : Nat} {o : Addr} {l : List (List Int)} {ta tb : TE} {x y : Int} (hi : σ[i]? = some (some (.ref o))) (ho : RowsW H o l) (hl : l.length ≤ 100000)
    (ha : Gv ta σ H (.int x)) (hb : Gv tb σ H (.int y)) (k : ∀ H', RowsW H' o (l ++ [[x, y]]) → But o H H' → D.nx σ H') :
    tDrop (tBM K "list" rAppend (tVar i) (tCons (tTup (tCons ta (tCons tb tNil))) tNil)) D σ H := by
  obtain ⟨ps, e, t⟩ := ho
  refine ⟨_, hi, .inl ⟨rfl, _, SqL.of e⟩, ha _ (hb _ ⟨(by show 2 ≤ sizeLine; decide), fun p hp => ?_⟩)⟩
  have hpo : p ≠ o := fun q => by rw [q, e] at hp; cases hp
  refine ⟨o, _, _, rfl, rfl, (upd_ne hpo.symm).trans e, ?_, ?_⟩
  · rw [List.length_map, t.len]
    exact szl (by omega)
  · exact k _ (RowsW.put (r := [x, y]) e t hp) fun b u q nb => by
      rw [upd_ne nb, upd_ne (ne_of_none q hp)]
      exact q
/-- rows of the specification's data -/
abbrev tr (x : Nat × Nat) : List Int := [(x.1 : Int), (x.2 : Int)]
abbrev sr (s : Stretch) : List Int := [(s.kind : Int), (s.from_ : Int), (s.till : Int)]
abbrev pr (s : Stretch) : List Int := [(s.from_ : Int), (s.till : Int)]
abbrev br (b : Broken) : List Int := [(b.at_ : Int), (b.rule : Int), (b.minutes : Int)]
abbrev dr (d : Debt) : List Int := [(d.by_ : Int), (d.minutes : Int)]
end Dh

end
section
set_option Elab.async false
set_option maxRecDepth 100000
set_option maxHeartbeats 4000000
namespace Dh
open PySem PySem.Spec PyProof.Rows L2
open Kg70 (Stretch Told line total Broken Run Day Debt)
section
variable {P : Program} {w : World} {K : PySem.W.Frag} {mg : Str → Option Value} {base : Heap} {CS CD CV : Addr}
theorem sum_ints : ∀ t : Told, (t.map fun x => (x.2 : Int)).sum = (total t : Nat)
  | [] => rfl
  | x :: t => by
    rw [List.map_cons, List.sum_cons, sum_ints t, total_cons]
    omega
def spEnd (K : PySem.W.Frag) : Sp := fun vs H Q _ => ∃ (a : Addr) (t : Told), vs = [.ref a] ∧ RowsR K H a (t.map tr) ∧ t.length ≤ 1000 ∧ ∀ H', Same H H' → Q (.int (total t : Nat)) H'
theorem ok_end_of {f : Addr} {fd : FuncData} (F : Fun K "end_of" "end_of" s_end_of f fd) (T : Txt K mg CS CD CV) : FnOk P w K mg base CX0 1 f fd ["told"] (spEnd K) := by
  refine F.ok sc_end_of (fun vs H Q E h => ?_) (fun cdv A outer s H vs Q E hr h => ⟨_, (pss_one (ps_ret (pe_callB (cr_sum rfl) (by rfl) T.b_sum (by decide +kernel) (pa_cons (pe_lc (own := [("kind", 1), ("minutes", 2)]) (g := (gTup K 2 (gCons (gName 1) (gCons (gName 2) gNil)))) (tt := tYes) (by rfl) sc_end_of.nd (pi_list (pv 0)) (blkOk_by (own := [("kind", 1), ("minutes", 2)]) (N := N_end_of) (sc := defScope s_end_of) (by decide +kernel)) (fun _ _ _ _ _ => (pg_tup rfl (pgs_cons (pg_name (i := 1) sc_end_of.nd rfl (Or.inl rfl)) (pgs_cons (pg_name (i := 2) sc_end_of.nd rfl (Or.inl rfl)) pgs_nil)))) (fun _ _ _ _ _ => pts_nil) (fun _ _ _ _ _ => (pv 2))) pa_nil)))), ?_⟩)
  · obtain ⟨a, t, rfl, _⟩ := h
    rfl
  · obtain ⟨a, t, rfl, ⟨ps, hS, hT⟩, hlen, k⟩ := h
    refine ⟨_, rfl, a, rfl, ⟨_, hS⟩, fun D hD => lc_list (K := K) (a := a) (xs := ps.map V.ref) (fun i H' => Same H H' ∧ H' D = some (.lst (ivs ((t.take i).map fun x => (x.2 : Int))))) ⟨same_next (Same.refl H) hD, upd_same⟩ (fun i H' _ h => h.1.seq hS) (fun i v H' hi hP => ?_) (fun H' hP => ?_)⟩
    · obtain ⟨sm, hD'⟩ := hP
      obtain ⟨p, x, rfl, hx, hp⟩ := hT.item hi
      refine ⟨p, ivs (tr x), rfl, SqT.of (sm _ _ hp), rfl, _, _, rfl, _, _, rfl, rfl, rfl, yes_of ⟨_, rfl, _, hD', szl ?_, same_new sm hD, ?_⟩⟩
      · simp only [List.length_map, List.length_take]
        omega
      · rw [upd_same, take_one hx]
        simp
    · obtain ⟨sm, hD'⟩ := hP
      refine ⟨D, _, rfl, SqL.of hD', ?_⟩
      rw [List.length_map, hT.len, List.length_map, List.take_length, sum_ints]
      exact k _ sm
def optV (o : Option Nat) : V := match o with
  | none => .non
  | some n => .int n
def spFirst (K : PySem.W.Frag) : Sp := fun vs H Q _ => ∃ (a : Addr) (l : List Stretch), vs = [.ref a] ∧ RowsR K H a (l.map sr) ∧ Q (optV (Kg70.firstWork l)) H
theorem first_rest {l : List Stretch} {i : Nat} (h : ∀ s ∈ l.take i, s.kind = 0) : Kg70.firstWork l = Kg70.firstWork (l.drop i) := by
  have e : l = l.take i ++ l.drop i := (List.take_append_drop i l).symm
  unfold Kg70.firstWork
  rw [e, List.find?_append]
  have : List.find? (fun s : Stretch => s.kind != 0) (l.take i) = none := List.find?_eq_none.mpr fun s m => by simp [h s m]
  rw [this]
  simp
theorem ok_first_work {f : Addr} {fd : FuncData} (F : Fun K "first_work" "first_work" s_first_work f fd) (T : Txt K mg CS CD CV) : FnOk P w K mg base CX0 1 f fd ["stretches"] (spFirst K) := by
  refine F.ok sc_first_work (fun vs H Q E h => ?_) (fun cdv A outer s H vs Q E hr h => ⟨_, (pss_cons (ps_for PassesOwn.never rfl (pi_list (pv 0)) (pg_tup rfl (pgs_cons (pg_name (i := 1) sc_first_work.nd rfl (Or.inl rfl)) (pgs_cons (pg_name (i := 2) sc_first_work.nd rfl (Or.inl rfl)) (pgs_cons (pg_name (i := 3) sc_first_work.nd rfl (Or.inl rfl)) pgs_nil)))) (pss_one (ps_if (pt_cmpR op_ne (pv 1) (pe_k rfl T.c_REST) (nomark _)) (pss_one (ps_ret (pv 2))) pss_nil)))
      (pss_one (ps_ret pe_non))), ?_⟩)
  · obtain ⟨a, t, rfl, _⟩ := h
    rfl
  · obtain ⟨a, l, rfl, ⟨ps, hS, hT⟩, k⟩ := h
    refine ⟨_, rfl, a, rfl, ⟨_, hS⟩, for_list (K := K) (a := a) (xs := ps.map V.ref) (fun i σ H' => ∃ v1 v2 v3, σ = [some (.ref a), v1, v2, v3] ∧ H' = H ∧ ∀ s ∈ l.take i, s.kind = 0) ⟨_, _, _, rfl, rfl, by simp⟩ (fun i σ H' _ ⟨_, _, _, _, e, _⟩ => by rw [e]; exact hS) ?_ ?_⟩
    · rintro i v σ H' hi ⟨v1, v2, v3, rfl, rfl, hk⟩
      obtain ⟨p, x, rfl, hx, hp⟩ := hT.item hi
      refine ⟨p, ivs (sr x), rfl, SqT.of hp, rfl, _, _, rfl, _, _, rfl, _, _, rfl, rfl, _, rfl, rfl, _, rfl, ?_⟩
      refine if_ndec (fun c => ?_) (fun c => ⟨_, _, _, rfl, rfl, fun s m => ?_⟩)
      rotate_left
      · have c : x.kind = 0 := by have := int_eq.mp c; omega
        rw [take_one hx] at m
        rcases List.mem_append.mp m with m | m
        · exact hk s m
        · rw [List.mem_singleton.mp m]
          exact c
      · have c : ¬ x.kind = 0 := fun q => c (int_eq.mpr (by omega))
        refine ⟨_, rfl, ?_⟩
        have : Kg70.firstWork l = some x.from_ := by
          rw [first_rest hk, drop_one hx]
          unfold Kg70.firstWork
          rw [List.find?_cons_of_pos (by simpa using c)]
          rfl
        rw [this] at k
        exact k
    · rintro σ H' ⟨v1, v2, v3, rfl, rfl, hk⟩
      rw [List.length_map, hT.len, List.length_map, List.take_length] at hk
      have : Kg70.firstWork l = none := by
        unfold Kg70.firstWork
        rw [List.find?_eq_none.mpr fun s m => by simp [hk s m]]
        rfl
      rw [this] at k
      exact k
theorem addStretch_nil (t : Nat) (x : Nat × Nat) : addStretch [] t x = [⟨x.1, t, t + x.2⟩] := rfl
theorem addStretch_snoc (l : List Stretch) (s : Stretch) (t : Nat) (x : Nat × Nat) : addStretch (l ++ [s]) t x = if s.kind = x.1 then l ++ [⟨x.1, s.from_, t + x.2⟩] else (l ++ [s]) ++ [⟨x.1, t, t + x.2⟩] := by
  unfold addStretch
  rw [List.getLast?_append]
  simp
def spStr (K : PySem.W.Frag) : Sp := fun vs H Q _ => ∃ (a : Addr) (t : Told), vs = [.ref a] ∧ RowsR K H a (t.map tr) ∧ t.length ≤ 1000 ∧ ∀ H' p, NewRows H H' p ((line t).map sr) → Q (.ref p) H'
theorem snoc_cases {α : Type} (l : List α) : l = [] ∨ ∃ l' x, l = l' ++ [x] := by
  rcases List.eq_nil_or_concat l with h | ⟨a, b, h⟩
  · exact .inl h
  · exact .inr ⟨a, b, by rw [h, List.concat_eq_append]⟩
theorem ok_stretches_of {f : Addr} {fd : FuncData} (F : Fun K "stretches_of" "stretches_of" s_stretches_of f fd) (T : Txt K mg CS CD CV) : FnOk P w K mg base CX0 1 f fd ["told"] (spStr K) := by
  refine F.ok sc_stretches_of (fun vs H Q E h => ?_) (fun cdv A outer s H vs Q E hr h => ⟨_, (pss_cons (ps_set (i := 1) sc_stretches_of.nd rfl (Or.inl rfl) (pe_lst pa_nil))
      (pss_cons (ps_set (i := 2) sc_stretches_of.nd rfl (Or.inl rfl) pe_int)
      (pss_cons (ps_for PassesOwn.never rfl (pi_list (pv 0)) (pg_tup rfl (pgs_cons (pg_name (i := 3) sc_stretches_of.nd rfl (Or.inl rfl)) (pgs_cons (pg_name (i := 4) sc_stretches_of.nd rfl (Or.inl rfl)) pgs_nil))) (pss_cons (ps_set (i := 5) sc_stretches_of.nd rfl (Or.inl rfl) (pv 2))
      (pss_cons (ps_aug (i := 2) sc_stretches_of.nd rfl (Or.inl rfl) (pv 4) ip_add)
      (pss_cons (ps_if (PW.pt (pw_and (pt_cmpR op_gt (pe_callB call_len_seq (by rfl) T.b_len (by decide +kernel) (pa_cons (pv 1) pa_nil)) pe_int (nomark _)) (pw_and1 (pt_cmpR op_eq (pe_ix ix_tup (pe_ix ix_list (pv 1) (pe_un un_neg pe_int) (fun _ _ => rfl)) pe_int (fun _ _ => rfl)) (pv 3) (nomark _))))) (pss_one (ps_set (i := 5) sc_stretches_of.nd rfl (Or.inl rfl) (pe_ix ix_tup (pe_bm0 PySem.F.plainAttrs_list PySem.F.slot_list_pop PySem.F.type_list_pop mt_pop (pv 1)) pe_int (fun _ _ => rfl)))) pss_nil)
      (pss_one (ps_expr (pe_bm PySem.F.plainAttrs_list PySem.F.slot_list_append PySem.F.type_list_append mt_append (pv 1) (pa_cons (pe_tup (pa_cons (pv 3) (pa_cons (pv 5) (pa_cons (pv 2) pa_nil)))) pa_nil))))))))
      (pss_one (ps_ret (pv 1)))))), ?_⟩)
  · obtain ⟨a, t, rfl, _⟩ := h
    rfl
  · obtain ⟨a, t, rfl, ⟨ps, hS, hT⟩, hlen, k⟩ := h
    refine ⟨Nat.zero_le _, fun o no => ?_⟩
    have s0 : Same H (upd H o (.lst [])) := same_next (Same.refl H) no
    refine ⟨_, rfl, a, rfl, ⟨_, s0.seq hS⟩, for_list (K := K) (a := a) (xs := ps.map V.ref) (fun i σ H' => ∃ (z : Int) (v3 v4 v5 : Option V), σ = [some (.ref a), some (.ref o), some (.int z), v3, v4, v5] ∧ z = (total (t.take i) : Nat) ∧ Same H H' ∧ RowsW H' o ((line (t.take i)).map sr)) ⟨_, _, _, _, rfl, rfl, s0, RowsW.nil⟩ (fun i σ H' _ ⟨_, _, _, _, _, _, e, _⟩ => e.seq hS) ?_ ?_⟩
    · rintro i v σ H' hi ⟨_, v3, v4, v5, rfl, rfl, sm, hR⟩
      obtain ⟨p, x, rfl, hx, hp⟩ := hT.item hi
      have hli : (line (t.take i)).length ≤ 1000 := by
        have h1 := len_line (t.take i)
        have h2 : (t.take i).length ≤ t.length := by rw [List.length_take]; exact Nat.min_le_right _ _
        omega
      have el : line (t.take (i + 1)) = addStretch (line (t.take i)) (total (t.take i)) x := by rw [take_one hx, line_snoc]
      have et : ((total (t.take i) : Nat) : Int) + (x.2 : Int) = (total (t.take (i + 1)) : Nat) := by
        rw [take_one hx, total_snoc]
        omega
      refine ⟨p, ivs (tr x), rfl, SqT.of (sm _ _ hp), rfl, _, _, rfl, _, _, rfl, rfl, ?_⟩
      refine ⟨_, rfl, _, rfl, _, rfl, _, _, rfl, rfl, ?_⟩
      rcases snoc_cases (line (t.take i)) with hn | ⟨l', y, hn⟩
      · rw [hn] at hR el
        obtain ⟨qs, e, tq⟩ := id hR
        have hq : qs = [] := List.eq_nil_of_length_eq_zero (by rw [tq.len]; rfl)
        subst hq
        refine ⟨.ref o, rfl, o, _, rfl, .inl (SqL.of e), _, _, rfl, rfl, _, rfl, if_false_of rfl ?_⟩
        refine if_false_of rfl ?_
        refine app3 rfl hR (by simp) gv_var gv_var gv_var fun H2 hR2 b2 => ⟨_, _, _, _, rfl, et, but_same sm no b2, ?_⟩
        · rw [el, addStretch_nil]
          have e2 : ((total (t.take i) : Nat) : Int) + (x.2 : Int) = ((total (t.take i) + x.2 : Nat) : Int) := by omega
          dsimp only at hR2
          rw [e2] at hR2
          exact hR2
      · rw [hn] at hR el hli
        rw [List.map_append] at hR
        obtain ⟨qs0, e, tq0⟩ := id hR
        obtain ⟨qs, q, rfl, tq, hq⟩ := Tups.last tq0
        have hlen2 : (0 : Int) < (((qs ++ [q]).map V.ref).length : Nat) := by simp
        refine ⟨.ref o, rfl, o, _, rfl, .inl (SqL.of e), _, _, rfl, rfl, _, rfl, if_true_of (decide_eq_true hlen2) ?_⟩
        have eL : (qs ++ [q]).map V.ref = qs.map V.ref ++ [V.ref q] := by rw [List.map_append]; rfl
        refine ⟨.ref o, rfl, _, rfl, o, _, _, _, rfl, rfl, SqL.of e, (by rw [eL]; exact atI_last _ _), q, _, _, _, rfl, rfl, SqT.of hq, atI_nat (j := 0) rfl, _, rfl, rfl, _, rfl, ?_⟩
        rw [addStretch_snoc] at el
        have e2 : ((total (t.take i) : Nat) : Int) + (x.2 : Int) = ((total (t.take i) + x.2 : Nat) : Int) := by omega
        refine if_dec (fun c => ?_) (fun c => ?_)
        · have c' : y.kind = x.1 := by have := int_eq.mp c; omega
          rw [if_pos c'] at el
          refine ⟨.ref o, rfl, .inl ⟨rfl, _, SqL.of e⟩, o, _, _, rfl, rfl, e, (by rw [eL]; simp), q, _, _, _, rfl, rfl, SqT.of ((upd_ne (lst_ne_tup e hq)).trans hq), atI_nat (j := 1) rfl, ?_⟩
          have hR1 : RowsW (upd H' o (.lst (List.map V.ref (qs ++ [q])).dropLast)) o (l'.map sr) := by
            refine ⟨qs, ?_, tq.sub fun p xs h => (upd_ne (lst_ne_tup e h)).trans h⟩
            rw [upd_same, eL, List.dropLast_concat]
          refine app3 rfl hR1 (by simp at hli ⊢; omega) gv_var gv_var gv_var fun H2 hR2 b2 => ⟨_, _, _, _, rfl, et, but_same (same_new sm no) no b2, ?_⟩
          · rw [el, List.map_append]
            dsimp only at hR2
            rw [e2] at hR2
            exact hR2
        · have c' : ¬ y.kind = x.1 := fun z => c (int_eq.mpr (by omega))
          rw [if_neg c'] at el
          refine app3 rfl hR (by simp at hli ⊢; omega) gv_var gv_var gv_var fun H2 hR2 b2 => ⟨_, _, _, _, rfl, et, but_same sm no b2, ?_⟩
          · rw [el, List.map_append, List.map_append]
            dsimp only at hR2
            rw [e2] at hR2
            exact hR2
    · rintro σ H' ⟨_, v3, v4, v5, rfl, rfl, sm, hR⟩
      rw [List.length_map, hT.len, List.length_map, List.take_length] at hR
      exact ⟨_, rfl, k _ _ ⟨sm, no, hR⟩⟩
end
end Dh

end
section
set_option Elab.async false
set_option maxRecDepth 100000
set_option maxHeartbeats 4000000
namespace Dh
open PySem PySem.Spec PyProof.Rows L2
open Kg70 (Stretch Told line total Broken Run Day Debt)
section
variable {P : Program} {w : World} {K : PySem.W.Frag} {mg : Str → Option Value} {base : Heap} {CS CD CV : Addr}
/-! ### small defs of numbers -/
def shortI (a b x : Int) : Bool := (decide (1440 ≤ b - a) && decide (b - a < 2700)) && !decide (b = x)
def spShort : Sp := fun vs H Q _ => ∃ a b x : Int, vs = [.int a, .int b, .int x] ∧ Q (.bl (shortI a b x)) H
theorem ok_is_short {f : Addr} {fd : FuncData} (F : Fun K "is_short" "is_short" s_is_short f fd) (T : Txt K mg CS CD CV) : FnOk P w K mg base CX0 1 f fd ["start", "stop", "end"] spShort := by
  refine F.ok sc_is_short (fun vs H Q E h => ?_) (fun cdv A outer s H vs Q E hr h => ⟨_, (pss_one (ps_ret (pe_and (pe_chain op_le op_lt (pe_k rfl T.c_WEEKLY_REST) (pe_op op_sub (pv 1) (pv 0)) (pe_k rfl T.c_WHOLE_WEEKLY_REST)) (pe_one (pe_cmpR op_ne (pv 1) (pv 2) (nomark _)))))), ?_⟩)
  · obtain ⟨a, b, x, rfl, _⟩ := h
    rfl
  · obtain ⟨a, b, x, rfl, k⟩ := h
    unfold shortI at k
    refine ⟨_, rfl, _, rfl, _, _, rfl, rfl, _, _, rfl, rfl, _, rfl, if_dec (fun c => ?_) (fun c => ?_)⟩
    · rw [decide_eq_true c, Bool.true_and] at k
      refine ⟨_, _, rfl, rfl, _, rfl, if_dec (fun c2 => ?_) (fun c2 => ?_)⟩
      · rw [decide_eq_true c2, Bool.true_and] at k
        refine ⟨_, rfl, _, rfl, rfl, ?_⟩
        have e : decide (V.int b = V.int x) = decide (b = x) := decide_eq_decide.mpr int_eq
        rw [e]
        exact k
      · rw [decide_eq_false c2, Bool.false_and] at k
        exact k
    · rw [decide_eq_false c, Bool.false_and, Bool.false_and] at k
      exact ⟨_, rfl, if_false_of rfl k⟩
def spLack : Sp := fun vs H Q _ => ∃ a b : Int, vs = [.int a, .int b] ∧ Q (.int (2700 - (b - a))) H
theorem ok_lacking {f : Addr} {fd : FuncData} (F : Fun K "lacking" "lacking" s_lacking f fd) (T : Txt K mg CS CD CV) : FnOk P w K mg base CX0 1 f fd ["start", "stop"] spLack := by
  refine F.ok sc_lacking (fun vs H Q E h => ?_) (fun cdv A outer s H vs Q E hr h => ⟨_, (pss_one (ps_ret (pe_op op_sub (pe_k rfl T.c_WHOLE_WEEKLY_REST) (pe_op op_sub (pv 1) (pv 0))))), ?_⟩)
  · obtain ⟨a, b, rfl, _⟩ := h
    rfl
  · obtain ⟨a, b, rfl, k⟩ := h
    exact ⟨_, rfl, _, rfl, _, _, rfl, rfl, _, _, rfl, rfl, k⟩
def spareI (m : Int) : Int := if 2700 ≤ m then m - 2700 else if 540 ≤ m ∧ m < 1440 then m - 540 else 0
def spSpare : Sp := fun vs H Q _ => ∃ a : Int, vs = [.int a] ∧ Q (.int (spareI a)) H
theorem ok_spare_of {f : Addr} {fd : FuncData} (F : Fun K "spare_of" "spare_of" s_spare_of f fd) (T : Txt K mg CS CD CV) : FnOk P w K mg base CX0 1 f fd ["minutes"] spSpare := by
  refine F.ok sc_spare_of (fun vs H Q E h => ?_) (fun cdv A outer s H vs Q E hr h => ⟨_, (pss_cons (ps_if (pt_cmpR op_ge (pv 0) (pe_k rfl T.c_WHOLE_WEEKLY_REST) (nomark _)) (pss_one (ps_ret (pe_op op_sub (pv 0) (pe_k rfl T.c_WHOLE_WEEKLY_REST)))) pss_nil)
      (pss_cons (ps_if (pt_chain op_le op_lt (pe_k rfl T.c_SPARING_REST) (pv 0) (pe_k rfl T.c_WEEKLY_REST)) (pss_one (ps_ret (pe_op op_sub (pv 0) (pe_k rfl T.c_SPARING_REST)))) pss_nil)
      (pss_one (ps_ret pe_int)))), ?_⟩)
  · obtain ⟨a, rfl, _⟩ := h
    rfl
  · obtain ⟨a, rfl, k⟩ := h
    unfold spareI at k
    refine ⟨_, rfl, _, _, rfl, rfl, _, rfl, if_dec (fun c => ?_) (fun c => ?_)⟩
    · rw [if_pos c] at k
      exact ⟨_, rfl, _, _, rfl, rfl, k⟩
    · rw [if_neg c] at k
      refine ⟨_, rfl, _, _, rfl, rfl, _, rfl, if_dec (fun c1 => ?_) (fun c1 => ?_)⟩
      · refine ⟨_, _, rfl, rfl, _, rfl, if_dec (fun c2 => ?_) (fun c2 => ?_)⟩
        · rw [if_pos ⟨c1, c2⟩] at k
          exact ⟨_, rfl, _, _, rfl, rfl, k⟩
        · rw [if_neg (fun q => c2 q.2)] at k
          exact k
      · rw [if_neg (fun q => c1 q.1)] at k
        exact ⟨_, rfl, if_false_of rfl k⟩
def spDue : Sp := fun vs H Q _ => ∃ a : Nat, vs = [.int a] ∧ a ≤ 100000000 ∧ Q (.int (((a / Kg70.WEEK + 4) * Kg70.WEEK : Nat) : Int)) H
theorem ok_due_minute {f : Addr} {fd : FuncData} (F : Fun K "due_minute" "due_minute" s_due_minute f fd) (T : Txt K mg CS CD CV) : FnOk P w K mg base CX0 1 f fd ["stop"] spDue := by
  refine F.ok sc_due_minute (fun vs H Q E h => ?_) (fun cdv A outer s H vs Q E hr h => ⟨_, (pss_one (ps_ret (pe_op op_mul (pe_op op_add (pe_op op_add (pe_op op_fdiv (pv 0) (pe_k rfl T.c_WEEK_weeks)) pe_int) (pe_k rfl T.c_WEEKS_TO_MAKE_UP)) (pe_k rfl T.c_WEEK_weeks)))), ?_⟩)
  · obtain ⟨a, rfl, _⟩ := h
    rfl
  · obtain ⟨a, rfl, ha, k⟩ := h
    refine ⟨_, rfl, _, _, rfl, rfl, ⟨by decide, by decide⟩, _, _, rfl, rfl, _, _, rfl, rfl, _, _, rfl, rfl, .inl (by omega), ?_⟩
    have e : ((a : Int) / 10080 + 1 + 3) * 10080 = (((a / Kg70.WEEK + 4) * Kg70.WEEK : Nat) : Int) := by
      show _ = (((a / 10080 + 4) * 10080 : Nat) : Int)
      omega
    rw [← e] at k
    exact k
/-! ### rests behind the first work, weekly ones -/
def spRests (K : PySem.W.Frag) : Sp := fun vs H Q _ => ∃ (a : Addr) (l : List Stretch), vs = [.ref a] ∧ RowsR K H a (l.map sr) ∧ l.length ≤ 1000 ∧ ∀ H' p, NewRows H H' p ((restsOf l).map pr) → Q (.ref p) H'
theorem len_filt {α : Type} {p : α → Bool} {l : List α} {i : Nat} : ((l.take i).filter p).length ≤ l.length := by
  have h1 := List.length_filter_le p (l.take i)
  rw [List.length_take] at h1
  omega
theorem ok_rests_behind_work {f : Addr} {fd : FuncData} (F : Fun K "rests_behind_work" "rests_behind_work" s_rests_behind_work f fd) (T : Txt K mg CS CD CV) (D1 : Kn P w K mg base 1 "first_work" ["stretches"] (spFirst K)) :
    FnOk P w K mg base CX0 2 f fd ["stretches"] (spRests K) := by
  obtain ⟨f_first_work, fd_first_work, G_first_work, g_first_work, k_first_work, B_first_work⟩ := D1
  refine F.ok sc_rests_behind_work (fun vs H Q E h => ?_) (fun cdv A outer s H vs Q E hr h => ⟨_, (pss_cons (ps_set (i := 1) sc_rests_behind_work.nd rfl (Or.inr rfl) (pe_call G_first_work (hr.mono (by decide)) (by rfl) g_first_work k_first_work B_first_work .nil pass0 (pa_cons (pv 0) pa_nil)))
      (pss_cons (ps_if (pt_cmpR op_isN (pv 1) pe_non (nomark _)) (pss_one (ps_ret (pe_lst pa_nil))) pss_nil)
      (pss_one (ps_ret (pe_lc (own := [("kind", 2), ("start", 3), ("stop", 4)]) (g := (gTup K 3 (gCons (gName 2) (gCons (gName 3) (gCons (gName 4) gNil))))) (by rfl) sc_rests_behind_work.nd (pi_list (pv 0)) (blkOk_by (own := [("kind", 2), ("start", 3), ("stop", 4)]) (N := N_rests_behind_work) (sc := defScope s_rests_behind_work) (by decide +kernel)) (fun _ _ _ _ _ => (pg_tup rfl (pgs_cons (pg_name (i := 2) sc_rests_behind_work.nd rfl (Or.inl rfl)) (pgs_cons (pg_name (i := 3) sc_rests_behind_work.nd rfl (Or.inl rfl)) (pgs_cons (pg_name (i := 4) sc_rests_behind_work.nd rfl (Or.inl rfl)) pgs_nil))))) (fun _ _ _ _ _ => (pts_one (PW.pt (pw_and (pt_cmpR op_eq (pv 2) (pe_k rfl T.c_REST) (nomark _)) (pw_and1 (pt_cmpR op_gt (pv 3) (pv 1) (nomark _))))))) (fun _ _ _ _ _ => (pe_tup (pa_cons (pv 3) (pa_cons (pv 4) pa_nil))))))))), ?_⟩)
  · obtain ⟨a, l, rfl, _⟩ := h
    rfl
  · obtain ⟨a, l, rfl, hR, hlen, k⟩ := h
    refine ⟨_, rfl, a, l, rfl, hR, ?_⟩
    cases hw : Kg70.firstWork l with
    | none =>
      refine ⟨_, rfl, rfl, _, rfl, if_true_of rfl ?_⟩
      refine ⟨Nat.zero_le _, fun p hp => k _ _ ⟨same_next (Same.refl H) hp, hp, ?_⟩⟩
      unfold restsOf
      simp only [hw]
      exact RowsW.nil
    | some n =>
      refine ⟨_, rfl, rfl, _, rfl, if_false_of rfl ?_⟩
      obtain ⟨ps, hS, hT⟩ := hR
      have er : restsOf l = rests n l := by unfold restsOf; simp only [hw]
      refine ⟨_, rfl, a, rfl, ⟨_, hS⟩, fun D hD => lc_list (K := K) (a := a) (xs := ps.map V.ref) (fun i H' => Same H H' ∧ RowsW H' D ((rests n (l.take i)).map pr)) ⟨same_next (Same.refl H) hD, RowsW.nil⟩ (fun i H' _ h => h.1.seq hS) (fun i v H' hi hP => ?_) (fun H' hP => ?_)⟩
      · obtain ⟨sm, hR'⟩ := hP
        obtain ⟨p, x, rfl, hx, hp⟩ := hT.item hi
        have hsn : rests n (l.take (i + 1)) = rests n (l.take i) ++ (if (x.kind == 0 && decide (n < x.from_)) = true then [x] else []) := by
          unfold rests
          rw [take_one hx, List.filter_append, List.filter_cons, List.filter_nil]
        refine ⟨p, ivs (sr x), rfl, SqT.of (sm _ _ hp), rfl, _, _, rfl, _, _, rfl, _, _, rfl, rfl, rfl, ?_⟩
        refine ⟨_, rfl, rfl, _, rfl, if_dec (fun c => ?_) (fun c => ?_)⟩
        · have c' : x.kind = 0 := by have := int_eq.mp c; omega
          refine ⟨_, rfl, _, rfl, _, _, rfl, rfl, _, rfl, ?_⟩
          refine if_dec (fun c2 => ?_) (fun c2 => ?_)
          · have c3 : (x.kind == 0 && decide (n < x.from_)) = true := by
              rw [c', decide_eq_true (by omega)]
              rfl
            rw [if_pos c3] at hsn
            obtain ⟨qs, e, tq⟩ := hR'
            refine ⟨_, rfl, _, rfl, (by show 2 ≤ sizeLine; decide), fun t ht => ?_⟩
            have hto : D ≠ t := fun q => by rw [← q, e] at ht; cases ht
            refine ⟨_, (upd_ne hto).trans e, ?_, ?_, ?_⟩
            · rw [List.length_map, tq.len, List.length_map]
              have := @len_filt _ (fun s : Stretch => s.kind == 0 && decide (n < s.from_)) l i
              unfold rests
              exact szl (by omega)
            · exact same_new (same_next sm ht) hD
            · rw [hsn, List.map_append]
              exact RowsW.put (r := pr x) e tq ht
          · have c3 : ¬ (x.kind == 0 && decide (n < x.from_)) = true := by
              rw [decide_eq_false (by omega)]
              simp
            rw [if_neg c3, List.append_nil] at hsn
            rw [hsn]
            exact ⟨sm, hR'⟩
        · have c' : ¬ x.kind = 0 := fun z => c (int_eq.mpr (by omega))
          have c3 : ¬ (x.kind == 0 && decide (n < x.from_)) = true := by simp [c']
          rw [if_neg c3, List.append_nil] at hsn
          rw [hsn]
          exact if_false_of rfl ⟨sm, hR'⟩
      · obtain ⟨sm, hR'⟩ := hP
        rw [List.length_map, hT.len, List.length_map, List.take_length, ← er] at hR'
        exact k _ _ ⟨sm, hD, hR'⟩
def isWk (s : Stretch) : Bool := decide (Kg70.WEEKLY ≤ s.long)
def spWeekly (K : PySem.W.Frag) : Sp := fun vs H Q _ => ∃ (a : Addr) (l : List Stretch), vs = [.ref a] ∧ RowsR K H a (l.map pr) ∧ l.length ≤ 1000 ∧ (∀ s ∈ l, s.from_ ≤ s.till) ∧ ∀ H' p, NewRows H H' p ((l.filter isWk).map pr) → Q (.ref p) H'
theorem isWk_int {x : Stretch} (h : x.from_ ≤ x.till) : isWk x = decide ((1440 : Int) ≤ (x.till : Int) - (x.from_ : Int)) := by
  unfold isWk
  refine decide_eq_decide.mpr ?_
  show 1440 ≤ x.till - x.from_ ↔ _
  omega
theorem ok_weekly_rests {f : Addr} {fd : FuncData} (F : Fun K "weekly_rests" "weekly_rests" s_weekly_rests f fd) (T : Txt K mg CS CD CV) :
    FnOk P w K mg base CX0 1 f fd ["rests"] (spWeekly K) := by
  refine F.ok sc_weekly_rests (fun vs H Q E h => ?_) (fun cdv A outer s H vs Q E hr h => ⟨_, (pss_one (ps_ret (pe_lc (own := [("start", 1), ("stop", 2)]) (g := (gTup K 2 (gCons (gName 1) (gCons (gName 2) gNil)))) (by rfl) sc_weekly_rests.nd (pi_list (pv 0)) (blkOk_by (own := [("start", 1), ("stop", 2)]) (N := N_weekly_rests) (sc := defScope s_weekly_rests) (by decide +kernel)) (fun _ _ _ _ _ => (pg_tup rfl (pgs_cons (pg_name (i := 1) sc_weekly_rests.nd rfl (Or.inl rfl)) (pgs_cons (pg_name (i := 2) sc_weekly_rests.nd rfl (Or.inl rfl)) pgs_nil)))) (fun _ _ _ _ _ => (pts_one (pt_cmpR op_ge (pe_op op_sub (pv 2) (pv 1)) (pe_k rfl T.c_WEEKLY_REST) (nomark _)))) (fun _ _ _ _ _ => (pe_tup (pa_cons (pv 1) (pa_cons (pv 2) pa_nil))))))), ?_⟩)
  · obtain ⟨a, l, rfl, _⟩ := h
    rfl
  · obtain ⟨a, l, rfl, ⟨ps, hS, hT⟩, hlen, hle, k⟩ := h
    refine ⟨_, rfl, a, rfl, ⟨_, hS⟩, fun D hD => lc_list (K := K) (a := a) (xs := ps.map V.ref) (fun i H' => Same H H' ∧ RowsW H' D (((l.take i).filter isWk).map pr)) ⟨same_next (Same.refl H) hD, RowsW.nil⟩ (fun i H' _ h => h.1.seq hS) (fun i v H' hi hP => ?_) (fun H' hP => ?_)⟩
    · obtain ⟨sm, hR'⟩ := hP
      obtain ⟨p, x, rfl, hx, hp⟩ := hT.item hi
      have hsn : (l.take (i + 1)).filter isWk = (l.take i).filter isWk ++ (if isWk x = true then [x] else []) := by
        rw [take_one hx, List.filter_append, List.filter_cons, List.filter_nil]
      have hb := isWk_int (hle x (List.mem_of_getElem? hx))
      refine ⟨p, ivs (pr x), rfl, SqT.of (sm _ _ hp), rfl, _, _, rfl, _, _, rfl, rfl, rfl, ?_⟩
      refine ⟨_, rfl, _, rfl, _, _, rfl, rfl, _, _, rfl, rfl, _, rfl, if_dec (fun c => ?_) (fun c => ?_)⟩
      · rw [hb, decide_eq_true c, if_pos rfl] at hsn
        obtain ⟨qs, e, tq⟩ := hR'
        refine ⟨_, rfl, _, rfl, (by show 2 ≤ sizeLine; decide), fun t ht => ?_⟩
        have hto : D ≠ t := fun q => by rw [← q, e] at ht; cases ht
        refine ⟨_, (upd_ne hto).trans e, ?_, same_new (same_next sm ht) hD, ?_⟩
        · rw [List.length_map, tq.len, List.length_map]
          have := @len_filt _ isWk l i
          exact szl (by omega)
        · rw [hsn, List.map_append]
          exact RowsW.put (r := pr x) e tq ht
      · rw [hb, decide_eq_false c, if_neg (by decide), List.append_nil] at hsn
        rw [hsn]
        exact ⟨sm, hR'⟩
    · obtain ⟨sm, hR'⟩ := hP
      rw [List.length_map, hT.len, List.length_map, List.take_length] at hR'
      exact k _ _ ⟨sm, hD, hR'⟩
end
end Dh

end
section
set_option Elab.async false
set_option maxRecDepth 100000
set_option maxHeartbeats 4000000
namespace Dh
open PySem PySem.Spec PyProof.Rows L2
open Kg70 (Stretch Told line total Broken Run Day Debt sixDays twoShort)
theorem but_refl (o : Addr) (H : Hp) : But o H H := fun _ _ h _ => h
theorem but_trans {o : Addr} {H H1 H2 : Hp} (a : But o H H1) (b : But o H1 H2) : But o H H2 := fun c u e n => b c u (a c u e n) n
theorem but_of {o : Addr} {H H1 : Hp} (s : Same H H1) : But o H H1 := fun c u e _ => s c u e
theorem tups_but {H H' : Hp} {o : Addr} {xs : List V} {ps : List Addr} {l : List (List Int)} (h : Tups H ps l) (ho : H o = some (.lst xs)) (b : But o H H') : Tups H' ps l := h.sub fun p _ q => b p _ q (lst_ne_tup ho q)
theorem seq_but {K : PySem.W.Frag} {H H' : Hp} {a o : Addr} {xs : List V} (e : SqL K H a xs) (n : a ≠ o) (b : But o H H') : SqL K H' a xs := by
  rcases e with (e | ⟨u, e⟩) | e
  · exact .inl (.inl (b _ _ e n))
  · exact .inl (.inr ⟨u, b _ _ e n⟩)
  · exact .inr e
/-- what holds of the stretches that the rules are asked of -/
structure LnOk (e : Nat) (l : List Stretch) : Prop where
  len : l.length ≤ 1000
  le : e ≤ 100000000
  all : ∀ s ∈ l, s.from_ < s.till ∧ s.till ≤ e
theorem restsOf_sub {l : List Stretch} : ∀ s ∈ restsOf l, s ∈ l := fun s m => by
  unfold restsOf at m
  split at m
  · cases m
  · exact (List.mem_filter.mp m).1
theorem restsOf_len {l : List Stretch} : (restsOf l).length ≤ l.length := by
  unfold restsOf
  split
  · exact Nat.zero_le _
  · exact List.length_filter_le _ _
theorem weeklyOf_is (l : List Stretch) : (restsOf l).filter isWk = weeklyOf l := rfl
theorem weeklyOf_sub {l : List Stretch} : ∀ s ∈ weeklyOf l, s ∈ l := fun s m => restsOf_sub s (List.mem_filter.mp m).1
theorem weeklyOf_len {l : List Stretch} : (weeklyOf l).length ≤ l.length := Nat.le_trans (List.length_filter_le _ _) restsOf_len
section
variable {P : Program} {w : World} {K : PySem.W.Frag} {mg : Str → Option Value} {base : Heap} {CS CD CV : Addr}
def spBroken (K : PySem.W.Frag) (g : Nat → List Stretch → List Broken) : Sp := fun vs H Q _ => ∃ (a : Addr) (l : List Stretch) (e : Nat), vs = [.ref a, .int e] ∧ RowsR K H a (l.map sr) ∧ LnOk e l ∧ ∀ H' p, NewRows H H' p ((g e l).map br) → Q (.ref p) H'
theorem ok_late_weekly_rests {f : Addr} {fd : FuncData} (F : Fun K "late_weekly_rests" "late_weekly_rests" s_late_weekly_rests f fd) (T : Txt K mg CS CD CV) (D1 : Kn P w K mg base 1 "first_work" ["stretches"] (spFirst K))
    (D2 : Kn P w K mg base 2 "rests_behind_work" ["stretches"] (spRests K)) (D3 : Kn P w K mg base 1 "weekly_rests" ["rests"] (spWeekly K)) :
    FnOk P w K mg base CX0 3 f fd ["stretches", "end"] (spBroken K late) := by
  obtain ⟨f_first_work, fd_first_work, G_first_work, g_first_work, k_first_work, B_first_work⟩ := D1
  obtain ⟨f_rests_behind_work, fd_rests_behind_work, G_rests_behind_work, g_rests_behind_work, k_rests_behind_work, B_rests_behind_work⟩ := D2
  obtain ⟨f_weekly_rests, fd_weekly_rests, G_weekly_rests, g_weekly_rests, k_weekly_rests, B_weekly_rests⟩ := D3
  refine F.ok sc_late_weekly_rests (fun vs H Q E h => ?_) (fun cdv A outer s H vs Q E hr h => ⟨_, (pss_cons (ps_set (i := 2) sc_late_weekly_rests.nd rfl (Or.inl rfl) (pe_call G_first_work (hr.mono (by decide)) (by rfl) g_first_work k_first_work B_first_work .nil pass0 (pa_cons (pv 0) pa_nil)))
      (pss_cons (ps_if (pt_cmpR op_isN (pv 2) pe_non (nomark _)) (pss_one (ps_ret (pe_lst pa_nil))) pss_nil)
      (pss_cons (ps_set (i := 3) sc_late_weekly_rests.nd rfl (Or.inl rfl) (pe_lst pa_nil))
      (pss_cons (ps_set (i := 4) sc_late_weekly_rests.nd rfl (Or.inl rfl) (pe_op op_add (pv 2) (pe_k rfl T.c_LONGEST_WITHOUT)))
      (pss_cons (ps_for PassesOwn.never rfl (pi_list (pe_call G_weekly_rests (hr.mono (by decide)) (by rfl) g_weekly_rests k_weekly_rests B_weekly_rests .nil pass0 (pa_cons (pe_call G_rests_behind_work (hr.mono (by decide)) (by rfl) g_rests_behind_work k_rests_behind_work B_rests_behind_work .nil pass0 (pa_cons (pv 0) pa_nil)) pa_nil))) (pg_tup rfl (pgs_cons (pg_name (i := 5) sc_late_weekly_rests.nd rfl (Or.inl rfl)) (pgs_cons (pg_name (i := 6) sc_late_weekly_rests.nd rfl (Or.inl rfl)) pgs_nil))) (pss_cons (ps_if (pt_cmpR op_gt (pv 5) (pv 4) (nomark _)) (pss_one (ps_expr (pe_bm PySem.F.plainAttrs_list PySem.F.slot_list_append PySem.F.type_list_append mt_append (pv 3) (pa_cons (pe_tup (pa_cons (pv 4) (pa_cons pe_int (pa_cons (pe_op op_sub (pv 5) (pv 4)) pa_nil)))) pa_nil)))) pss_nil)
      (pss_one (ps_set (i := 4) sc_late_weekly_rests.nd rfl (Or.inl rfl) (pe_op op_add (pv 6) (pe_k rfl T.c_LONGEST_WITHOUT))))))
      (pss_cons (ps_if (pt_cmpR op_gt (pv 1) (pv 4) (nomark _)) (pss_one (ps_expr (pe_bm PySem.F.plainAttrs_list PySem.F.slot_list_append PySem.F.type_list_append mt_append (pv 3) (pa_cons (pe_tup (pa_cons (pv 4) (pa_cons pe_int (pa_cons (pe_op op_sub (pv 1) (pv 4)) pa_nil)))) pa_nil)))) pss_nil)
      (pss_one (ps_ret (pv 3))))))))), ?_⟩)
  · obtain ⟨a, l, e, rfl, _⟩ := h
    rfl
  · obtain ⟨a, l, e, rfl, hR, hL, k⟩ := h
    refine ⟨_, rfl, a, l, rfl, hR, ?_⟩
    cases hw : Kg70.firstWork l with
    | none =>
      refine ⟨_, rfl, rfl, _, rfl, if_true_of rfl ?_⟩
      refine ⟨Nat.zero_le _, fun p hp => k _ _ ⟨same_next (Same.refl H) hp, hp, ?_⟩⟩
      unfold late
      simp only [hw]
      exact RowsW.nil
    | some n =>
      have ek : late e l = sixDays e n (weeklyOf l) := by unfold late; simp only [hw]
      refine ⟨_, rfl, rfl, _, rfl, if_false_of rfl ?_⟩
      refine ⟨Nat.zero_le _, fun o no => ?_⟩
      have s0 : Same H (upd H o (.lst [])) := same_next (Same.refl H) no
      refine ⟨_, rfl, _, _, rfl, rfl, ?_⟩
      refine ⟨_, rfl, a, l, rfl, hR.same s0, hL.len, fun H1 p1 r1 => ?_⟩
      refine ⟨p1, restsOf l, rfl, r1.rows.read, Nat.le_trans restsOf_len hL.len, (fun s m => Nat.le_of_lt (hL.all s (restsOf_sub s m)).1), fun H2 p2 r2 => ?_⟩
      rw [weeklyOf_is] at r2
      have s2 : Same (upd H o (.lst [])) H2 := r1.same.trans r2.same
      have ho2 : H2 o = some (.lst []) := s2 _ _ upd_same
      have np2 : p2 ≠ o := fun q => by
        have := r1.same _ _ (upd_same (H := H) (a := o) (o := .lst []))
        rw [← q, r2.new] at this
        cases this
      obtain ⟨ps, hS, hT⟩ := r2.rows.read (K := K)
      have hwl := Nat.le_trans (@weeklyOf_len l) hL.len
      refine ⟨p2, rfl, ⟨_, hS⟩, for_list (K := K) (a := p2) (xs := ps.map V.ref) (fun i σ H' => ∃ (z : Int) (v5 v6 : Option V) (done : List Broken) (x : Nat), σ = [some (.ref a), some (.int e), some (.int n), some (.ref o), some (.int z), v5, v6] ∧ z = (x : Int) + 8640 ∧ But o H2 H' ∧ RowsW H' o (done.map br) ∧ sixDays e n (weeklyOf l) = done ++ sixDays e x ((weeklyOf l).drop i) ∧ done.length ≤ i ∧ i ≤ 1000)
        ⟨_, _, _, [], n, rfl, rfl, but_refl o H2, ⟨[], ho2, trivial⟩, rfl, Nat.le_refl _, Nat.zero_le _⟩ (fun i σ H' _ ⟨_, _, _, _, _, _, _, b, _⟩ => seq_but hS np2 b) ?_ ?_⟩
      · rintro i v σ H' hi ⟨_, v5, v6, done, x, rfl, rfl, b, hR', hD, hdl, hil⟩
        obtain ⟨p, y, rfl, hy, hp⟩ := hT.item hi
        have hyi := lt_of_get hy
        have hp' : H' p = some (.tup (ivs (pr y))) := b _ _ hp (lst_ne_tup ho2 hp)
        have hyl := hL.all y (weeklyOf_sub y (List.mem_of_getElem? hy))
        rw [drop_one hy, sixDays_cons] at hD
        have c6 : (6 * Kg70.DAY : Nat) = 8640 := rfl
        rw [c6] at hD
        refine ⟨p, _, rfl, SqT.of hp', rfl, _, _, rfl, _, _, rfl, rfl, ?_⟩
        refine ⟨_, rfl, _, rfl, _, _, rfl, rfl, _, rfl, if_dec (fun c => ?_) (fun c => ?_)⟩
        · rw [if_pos (by omega)] at hD
          refine app3 rfl hR' (by rw [List.length_map]; omega) gv_var gv_c (fun Q q => ⟨_, rfl, _, rfl, _, _, rfl, rfl, q⟩) fun H3 hR3 b3 => ?_
          refine ⟨_, rfl, _, _, rfl, rfl, ?_⟩
          refine ⟨_, _, _, done ++ [⟨5, x + 8640, y.from_ - (x + 8640)⟩], y.till, rfl, rfl, but_trans b b3, ?_, by rw [hD, List.append_assoc], by simp; omega, by omega⟩
          have e1 : (x : Int) + 8640 = ((x + 8640 : Nat) : Int) := by omega
          have e2 : (y.from_ : Int) - ((x : Int) + 8640) = ((y.from_ - (x + 8640) : Nat) : Int) := by omega
          rw [e2, e1] at hR3
          rw [List.map_append]
          exact hR3
        · rw [if_neg (by omega), List.nil_append] at hD
          refine ⟨_, rfl, _, _, rfl, rfl, ?_⟩
          exact ⟨_, _, _, done, y.till, rfl, rfl, b, hR', hD, by omega, by omega⟩
      · rintro σ H' ⟨_, v5, v6, done, x, rfl, rfl, b, hR', hD, hdl, hil⟩
        rw [List.length_map, hT.len, List.length_map] at hD hdl
        rw [List.drop_length, sixDays_nil] at hD
        have c6 : (6 * Kg70.DAY : Nat) = 8640 := rfl
        rw [c6] at hD
        have sH : Same H H2 := s0.trans s2
        refine ⟨_, rfl, _, rfl, _, _, rfl, rfl, _, rfl, if_dec (fun c => ?_) (fun c => ?_)⟩
        · rw [if_pos (by omega)] at hD
          refine app3 rfl hR' (by rw [List.length_map]; omega) gv_var gv_c (fun Q q => ⟨_, rfl, _, rfl, _, _, rfl, rfl, q⟩) fun H3 hR3 b3 => ?_
          refine ⟨_, rfl, k _ _ ⟨but_same sH no (but_trans b b3), no, ?_⟩⟩
          have e1 : (x : Int) + 8640 = ((x + 8640 : Nat) : Int) := by omega
          have e2 : (e : Int) - ((x : Int) + 8640) = ((e - (x + 8640) : Nat) : Int) := by omega
          rw [e2, e1] at hR3
          rw [ek, hD, List.map_append]
          exact hR3
        · rw [if_neg (by omega), List.append_nil] at hD
          refine ⟨_, rfl, k _ _ ⟨but_same sH no b, no, ?_⟩⟩
          rw [ek, hD]
          exact hR'
theorem shortI_is {r : Stretch} {e : Nat} (h : r.from_ ≤ r.till) : shortI r.from_ r.till e = (isWk r && shortAt e r) := by
  unfold shortI isWk shortAt
  have h1 : decide ((1440 : Int) ≤ (r.till : Int) - (r.from_ : Int)) = decide (Kg70.WEEKLY ≤ r.long) := by
    refine decide_eq_decide.mpr ?_
    show _ ↔ 1440 ≤ r.till - r.from_
    omega
  have h2 : decide ((r.till : Int) - (r.from_ : Int) < 2700) = decide (r.long < Kg70.WHOLE) := by
    refine decide_eq_decide.mpr ?_
    show _ ↔ r.till - r.from_ < 2700
    omega
  have h3 : (!decide ((r.till : Int) = (e : Int))) = (r.till != e) := by
    by_cases c : r.till = e
    · rw [c]; simp
    · have : ¬ ((r.till : Int) = (e : Int)) := by omega
      rw [decide_eq_false this]
      simp [c]
  rw [h1, h2, h3, Bool.and_assoc]
theorem ok_twice_short_weekly_rests {f : Addr} {fd : FuncData} (F : Fun K "twice_short_weekly_rests" "twice_short_weekly_rests" s_twice_short_weekly_rests f fd) (T : Txt K mg CS CD CV)
    (D2 : Kn P w K mg base 2 "rests_behind_work" ["stretches"] (spRests K)) (D3 : Kn P w K mg base 1 "weekly_rests" ["rests"] (spWeekly K))
    (D4 : Kn P w K mg base 1 "is_short" ["start", "stop", "end"] spShort) (D5 : Kn P w K mg base 1 "lacking" ["start", "stop"] spLack) :
    FnOk P w K mg base CX0 3 f fd ["stretches", "end"] (spBroken K twice) := by
  obtain ⟨f_rests_behind_work, fd_rests_behind_work, G_rests_behind_work, g_rests_behind_work, k_rests_behind_work, B_rests_behind_work⟩ := D2
  obtain ⟨f_weekly_rests, fd_weekly_rests, G_weekly_rests, g_weekly_rests, k_weekly_rests, B_weekly_rests⟩ := D3
  obtain ⟨f_is_short, fd_is_short, G_is_short, g_is_short, k_is_short, B_is_short⟩ := D4
  obtain ⟨f_lacking, fd_lacking, G_lacking, g_lacking, k_lacking, B_lacking⟩ := D5
  refine F.ok sc_twice_short_weekly_rests (fun vs H Q E h => ?_) (fun cdv A outer s H vs Q E hr h => ⟨_, (pss_cons (ps_set (i := 2) sc_twice_short_weekly_rests.nd rfl (Or.inl rfl) (pe_lst pa_nil))
      (pss_cons (ps_set (i := 3) sc_twice_short_weekly_rests.nd rfl (Or.inl rfl) pe_bl)
      (pss_cons (ps_for PassesOwn.never rfl (pi_list (pe_call G_weekly_rests (hr.mono (by decide)) (by rfl) g_weekly_rests k_weekly_rests B_weekly_rests .nil pass0 (pa_cons (pe_call G_rests_behind_work (hr.mono (by decide)) (by rfl) g_rests_behind_work k_rests_behind_work B_rests_behind_work .nil pass0 (pa_cons (pv 0) pa_nil)) pa_nil))) (pg_tup rfl (pgs_cons (pg_name (i := 4) sc_twice_short_weekly_rests.nd rfl (Or.inl rfl)) (pgs_cons (pg_name (i := 5) sc_twice_short_weekly_rests.nd rfl (Or.inl rfl)) pgs_nil))) (pss_cons (ps_set (i := 6) sc_twice_short_weekly_rests.nd rfl (Or.inl rfl) (pe_call G_is_short (hr.mono (by decide)) (by rfl) g_is_short k_is_short B_is_short .nil pass0 (pa_cons (pv 4) (pa_cons (pv 5) (pa_cons (pv 1) pa_nil)))))
      (pss_cons (ps_if (PW.pt (pw_and (pt_val (pv 3)) (pw_and1 (pt_val (pv 6))))) (pss_one (ps_expr (pe_bm PySem.F.plainAttrs_list PySem.F.slot_list_append PySem.F.type_list_append mt_append (pv 2) (pa_cons (pe_tup (pa_cons (pv 4) (pa_cons pe_int (pa_cons (pe_call G_lacking (hr.mono (by decide)) (by rfl) g_lacking k_lacking B_lacking .nil pass0 (pa_cons (pv 4) (pa_cons (pv 5) pa_nil))) pa_nil)))) pa_nil)))) pss_nil)
      (pss_one (ps_set (i := 3) sc_twice_short_weekly_rests.nd rfl (Or.inl rfl) (pv 6))))))
      (pss_one (ps_ret (pv 2)))))), ?_⟩)
  · obtain ⟨a, l, e, rfl, _⟩ := h
    rfl
  · obtain ⟨a, l, e, rfl, hR, hL, k⟩ := h
    refine ⟨Nat.zero_le _, fun o no => ?_⟩
    have s0 : Same H (upd H o (.lst [])) := same_next (Same.refl H) no
    refine ⟨_, rfl, a, l, rfl, hR.same s0, hL.len, fun H1 p1 r1 => ?_⟩
    refine ⟨p1, restsOf l, rfl, r1.rows.read, Nat.le_trans restsOf_len hL.len, (fun s m => Nat.le_of_lt (hL.all s (restsOf_sub s m)).1), fun H2 p2 r2 => ?_⟩
    rw [weeklyOf_is] at r2
    have s2 : Same (upd H o (.lst [])) H2 := r1.same.trans r2.same
    have ho2 : H2 o = some (.lst []) := s2 _ _ upd_same
    have np2 : p2 ≠ o := fun q => by
      have := r1.same _ _ (upd_same (H := H) (a := o) (o := .lst []))
      rw [← q, r2.new] at this
      cases this
    obtain ⟨ps, hS, hT⟩ := r2.rows.read (K := K)
    have hwl := Nat.le_trans (@weeklyOf_len l) hL.len
    refine ⟨p2, rfl, ⟨_, hS⟩, for_list (K := K) (a := p2) (xs := ps.map V.ref) (fun i σ H' => ∃ (z : Bool) (v4 v5 v6 : Option V) (done : List Broken), σ = [some (.ref a), some (.int e), some (.ref o), some (.bl z), v4, v5, v6] ∧ But o H2 H' ∧ RowsW H' o (done.map br) ∧ twoShort e false (weeklyOf l) = done ++ twoShort e z ((weeklyOf l).drop i) ∧ done.length ≤ i)
      ⟨_, _, _, _, [], rfl, but_refl o H2, ⟨[], ho2, trivial⟩, rfl, Nat.le_refl _⟩ (fun i σ H' _ ⟨_, _, _, _, _, _, b, _⟩ => seq_but hS np2 b) ?_ ?_⟩
    · rintro i v σ H' hi ⟨z, v4, v5, v6, done, rfl, b, hR', hD, hdl⟩
      obtain ⟨p, y, rfl, hy, hp⟩ := hT.item hi
      have hyi := lt_of_get hy
      have hp' : H' p = some (.tup (ivs (pr y))) := b _ _ hp (lst_ne_tup ho2 hp)
      have hyl := hL.all y (weeklyOf_sub y (List.mem_of_getElem? hy))
      have hyw : isWk y = true := (List.mem_filter.mp (List.mem_of_getElem? hy)).2
      have hsh := shortI_is (r := y) (e := e) (Nat.le_of_lt hyl.1)
      rw [hyw, Bool.true_and] at hsh
      rw [drop_one hy, twoShort_cons] at hD
      refine ⟨p, _, rfl, SqT.of hp', rfl, _, _, rfl, _, _, rfl, rfl, ?_⟩
      refine ⟨_, rfl, _, rfl, _, rfl, _, _, _, rfl, ?_⟩
      rw [hsh]
      refine ⟨_, rfl, _, rfl, ?_⟩
      cases z with
      | false =>
        refine if_false_of rfl (if_false_of rfl ?_)
        rw [Bool.false_and, if_neg (by decide), List.nil_append] at hD
        exact ⟨_, rfl, _, _, _, _, done, rfl, b, hR', hD, by omega⟩
      | true =>
        refine if_true_of rfl ?_
        rw [Bool.true_and] at hD
        refine ⟨_, rfl, _, rfl, ?_⟩
        cases hs : shortAt e y with
        | false =>
          refine if_false_of rfl ?_
          rw [hs, if_neg (by decide), List.nil_append] at hD
          exact ⟨_, rfl, _, _, _, _, done, rfl, b, hR', hD, by omega⟩
        | true =>
          refine if_true_of rfl ?_
          rw [hs, if_pos rfl] at hD
          have hlg : y.till - y.from_ < 2700 := by
            unfold shortAt at hs
            rw [Bool.and_eq_true] at hs
            exact of_decide_eq_true hs.1
          refine app3 rfl hR' (by rw [List.length_map]; omega) gv_var gv_c (fun Q q => ⟨_, rfl, _, rfl, _, _, rfl, q⟩) fun H3 hR3 b3 => ?_
          refine ⟨_, rfl, _, _, _, _, done ++ [⟨6, y.from_, Kg70.WHOLE - y.long⟩], rfl, but_trans b b3, ?_, by rw [hD, List.append_assoc], by simp; omega⟩
          have e2 : (2700 : Int) - ((y.till : Int) - (y.from_ : Int)) = ((Kg70.WHOLE - y.long : Nat) : Int) := by
            show _ = ((2700 - (y.till - y.from_) : Nat) : Int)
            omega
          rw [e2] at hR3
          rw [List.map_append]
          exact hR3
    · rintro σ H' ⟨z, v4, v5, v6, done, rfl, b, hR', hD, hdl⟩
      rw [List.length_map, hT.len, List.length_map] at hD hdl
      rw [List.drop_length, twoShort_nil, List.append_nil] at hD
      have sH : Same H H2 := s0.trans s2
      refine ⟨_, rfl, k _ _ ⟨but_same sH no b, no, ?_⟩⟩
      have ek : twice e l = twoShort e false (weeklyOf l) := rfl
      rw [ek, hD]
      exact hR'
end
end Dh

end
section
set_option Elab.async false
set_option maxRecDepth 100000
set_option maxHeartbeats 4000000
namespace Dh
open PySem PySem.Spec PyProof.Rows L2
open Kg70 (Stretch Told line total Broken Run Day Debt sixDays twoShort)
section
variable {P : Program} {w : World} {K : PySem.W.Frag} {mg : Str → Option Value} {base : Heap} {CS CD CV : Addr}
def spDebts (K : PySem.W.Frag) : Sp := fun vs H Q _ => ∃ (a : Addr) (ds : List Debt) (t sp : Nat), vs = [.ref a, .int t, .int sp] ∧ RowsR K H a (ds.map dr) ∧ ds.length ≤ 1000 ∧ ∀ H' p, NewRows H H' p ((payS sp t ds).map dr) → Q (.ref p) H'
theorem payS_cons (sp t : Nat) (d : Debt) (l : List Debt) : payS sp t (d :: l) = if d.minutes ≤ sp ∧ t + d.minutes ≤ d.by_ then l else d :: payS sp t l := rfl
theorem ok_debts_left {f : Addr} {fd : FuncData} (F : Fun K "debts_left" "debts_left" s_debts_left f fd) (T : Txt K mg CS CD CV) :
    FnOk P w K mg base CX0 1 f fd ["debts", "start", "spare"] (spDebts K) := by
  refine F.ok sc_debts_left (fun vs H Q E h => ?_) (fun cdv A outer s H vs Q E hr h => ⟨_, (pss_cons (ps_set (i := 3) sc_debts_left.nd rfl (Or.inl rfl) (pe_lst pa_nil))
      (pss_cons (ps_set (i := 4) sc_debts_left.nd rfl (Or.inl rfl) pe_bl)
      (pss_cons (ps_for PassesOwn.never rfl (pi_list (pv 0)) (pg_tup rfl (pgs_cons (pg_name (i := 5) sc_debts_left.nd rfl (Or.inl rfl)) (pgs_cons (pg_name (i := 6) sc_debts_left.nd rfl (Or.inl rfl)) pgs_nil))) (pss_one (ps_if (PW.pt (pw_and (pt_not (pt_val (pv 4))) (pw_and (pt_cmpR op_le (pv 6) (pv 2) (nomark _)) (pw_and1 (pt_cmpR op_le (pe_op op_add (pv 1) (pv 6)) (pv 5) (nomark _)))))) (pss_one (ps_set (i := 4) sc_debts_left.nd rfl (Or.inl rfl) pe_bl)) (pss_one (ps_expr (pe_bm PySem.F.plainAttrs_list PySem.F.slot_list_append PySem.F.type_list_append mt_append (pv 3) (pa_cons (pe_tup (pa_cons (pv 5) (pa_cons (pv 6) pa_nil))) pa_nil)))))))
      (pss_one (ps_ret (pv 3)))))), ?_⟩)
  · obtain ⟨a, ds, t, sp, rfl, _⟩ := h
    rfl
  · obtain ⟨a, ds, t, sp, rfl, ⟨ps, hS, hT⟩, hlen, k⟩ := h
    refine ⟨Nat.zero_le _, fun o no => ?_⟩
    have s0 : Same H (upd H o (.lst [])) := same_next (Same.refl H) no
    refine ⟨_, rfl, a, rfl, ⟨_, s0.seq hS⟩, for_list (K := K) (a := a) (xs := ps.map V.ref) (fun i σ H' => ∃ (m : Bool) (v5 v6 : Option V) (done : List Debt), σ = [some (.ref a), some (.int t), some (.int sp), some (.ref o), some (.bl m), v5, v6] ∧ Same H H' ∧ RowsW H' o (done.map dr) ∧ payS sp t ds = done ++ (if m = true then ds.drop i else payS sp t (ds.drop i)) ∧ done.length ≤ i)
      ⟨_, _, _, [], rfl, s0, RowsW.nil, rfl, Nat.le_refl _⟩ (fun i σ H' _ ⟨_, _, _, _, _, b, _⟩ => b.seq hS) ?_ ?_⟩
    · rintro i v σ H' hi ⟨m, v5, v6, done, rfl, sm, hR', hD, hdl⟩
      obtain ⟨p, y, rfl, hy, hp⟩ := hT.item hi
      have hyi := lt_of_get hy
      have hp' : H' p = some (.tup (ivs (dr y))) := sm _ _ hp
      rw [drop_one hy] at hD
      refine ⟨p, _, rfl, SqT.of hp', rfl, _, _, rfl, _, _, rfl, rfl, ?_⟩
      have more : ∀ m : Bool, payS sp t ds = (done ++ [y]) ++ (if m = true then ds.drop (i + 1) else payS sp t (ds.drop (i + 1))) → tDrop (tBM K "list" rAppend (tVar 3) (tCons (tTup (tCons (tVar 5) (tCons (tVar 6) tNil))) tNil))
          { nx := fun σ H' => ∃ (m : Bool) (v5 v6 : Option V) (done : List Debt), σ = [some (.ref a), some (.int t), some (.int sp), some (.ref o), some (.bl m), v5, v6] ∧ Same H H' ∧ RowsW H' o (done.map dr) ∧ payS sp t ds = done ++ (if m = true then ds.drop (i + 1) else payS sp t (ds.drop (i + 1))) ∧ done.length ≤ i + 1, rt := Q }
          [some (.ref a), some (.int t), some (.int sp), some (.ref o), some (.bl m), some (.int y.by_), some (.int y.minutes)] H' := fun m hm => by
        refine app2 rfl hR' (by rw [List.length_map]; omega) gv_var gv_var fun H3 hR3 b3 => ?_
        refine ⟨_, _, _, done ++ [y], rfl, but_same sm no b3, ?_, hm, by simp; omega⟩
        rw [List.map_append]
        exact hR3
      cases m with
      | true =>
        rw [if_pos rfl] at hD
        refine ⟨_, rfl, _, rfl, if_false_of rfl (if_false_of rfl ?_)⟩
        exact more true (by rw [hD, List.append_assoc]; rfl)
      | false =>
        rw [if_neg (by decide), payS_cons] at hD
        refine ⟨_, rfl, _, rfl, if_true_of rfl ?_⟩
        refine ⟨_, rfl, _, rfl, _, _, rfl, rfl, _, rfl, if_dec (fun c => ?_) (fun c => ?_)⟩
        · refine ⟨_, rfl, _, rfl, _, _, rfl, rfl, _, rfl, _, _, rfl, rfl, _, rfl, if_dec (fun c2 => ?_) (fun c2 => ?_)⟩
          · rw [if_pos ⟨by omega, by omega⟩] at hD
            exact ⟨_, _, _, done, rfl, sm, hR', by rw [hD, if_pos rfl], by omega⟩
          · rw [if_neg (fun q => c2 (by omega))] at hD
            exact more false (by rw [hD, List.append_assoc]; rfl)
        · rw [if_neg (fun q => c (by omega))] at hD
          refine if_false_of rfl ?_
          exact more false (by rw [hD, List.append_assoc]; rfl)
    · rintro σ H' ⟨m, v5, v6, done, rfl, sm, hR', hD, hdl⟩
      rw [List.length_map, hT.len, List.length_map] at hD hdl
      rw [List.drop_length] at hD
      have hD2 : payS sp t ds = done := by
        rw [hD]
        cases m <;> simp [payS]
      refine ⟨_, rfl, k _ _ ⟨sm, no, ?_⟩⟩
      rw [hD2]
      exact hR'
theorem newDebt_is (e : Nat) (r : Stretch) : newDebt e r = if (isWk r && shortAt e r) = true then [⟨Kg70.WHOLE - r.long, (r.till / Kg70.WEEK + 4) * Kg70.WEEK⟩] else [] := by
  unfold newDebt isWk shortAt
  by_cases c : Kg70.WEEKLY ≤ r.long ∧ r.long < Kg70.WHOLE ∧ r.till ≠ e
  · rw [if_pos c, if_pos]
    rw [decide_eq_true c.1, decide_eq_true c.2.1]
    simpa using c.2.2
  · rw [if_neg c, if_neg]
    simp only [Bool.and_eq_true, decide_eq_true_eq, bne_iff_ne]
    exact c
theorem spareI_is {r : Stretch} (h : r.from_ ≤ r.till) : spareI ((r.till : Int) - (r.from_ : Int)) = ((Kg70.spare r : Nat) : Int) := by
  unfold spareI Kg70.spare
  have el : r.long = r.till - r.from_ := rfl
  simp only [Kg70.WHOLE, Kg70.WEEKLY, Kg70.SHORT, el]
  by_cases c1 : 2700 ≤ r.till - r.from_
  · rw [if_pos (by omega), if_pos c1]
    omega
  · rw [if_neg (by omega), if_neg c1]
    by_cases c2 : r.till - r.from_ < 1440
    · rw [if_pos c2]
      by_cases c3 : 540 ≤ r.till - r.from_
      · rw [if_pos (by omega)]
        omega
      · rw [if_neg (by omega)]
        omega
    · rw [if_neg (by omega), if_neg c2]
      rfl
def duesB (e : Nat) (d : Debt) : Bool := decide (d.by_ ≤ e)
theorem ok_weekly_rests_not_made_up_for {f : Addr} {fd : FuncData} (F : Fun K "weekly_rests_not_made_up_for" "weekly_rests_not_made_up_for" s_weekly_rests_not_made_up_for f fd) (T : Txt K mg CS CD CV)
    (D2 : Kn P w K mg base 2 "rests_behind_work" ["stretches"] (spRests K)) (D3 : Kn P w K mg base 1 "debts_left" ["debts", "start", "spare"] (spDebts K))
    (D4 : Kn P w K mg base 1 "is_short" ["start", "stop", "end"] spShort) (D5 : Kn P w K mg base 1 "lacking" ["start", "stop"] spLack)
    (D6 : Kn P w K mg base 1 "spare_of" ["minutes"] spSpare) (D7 : Kn P w K mg base 1 "due_minute" ["stop"] spDue) :
    FnOk P w K mg base CX0 3 f fd ["stretches", "end"] (spBroken K unpaid) := by
  obtain ⟨f_rests_behind_work, fd_rests_behind_work, G_rests_behind_work, g_rests_behind_work, k_rests_behind_work, B_rests_behind_work⟩ := D2
  obtain ⟨f_debts_left, fd_debts_left, G_debts_left, g_debts_left, k_debts_left, B_debts_left⟩ := D3
  obtain ⟨f_is_short, fd_is_short, G_is_short, g_is_short, k_is_short, B_is_short⟩ := D4
  obtain ⟨f_lacking, fd_lacking, G_lacking, g_lacking, k_lacking, B_lacking⟩ := D5
  obtain ⟨f_spare_of, fd_spare_of, G_spare_of, g_spare_of, k_spare_of, B_spare_of⟩ := D6
  obtain ⟨f_due_minute, fd_due_minute, G_due_minute, g_due_minute, k_due_minute, B_due_minute⟩ := D7
  refine F.ok sc_weekly_rests_not_made_up_for (fun vs H Q E h => ?_) (fun cdv A outer s H vs Q E hr h => ⟨_, (pss_cons (ps_set (i := 2) sc_weekly_rests_not_made_up_for.nd rfl (Or.inl rfl) (pe_lst pa_nil))
      (pss_cons (ps_for PassesOwn.never rfl (pi_list (pe_call G_rests_behind_work (hr.mono (by decide)) (by rfl) g_rests_behind_work k_rests_behind_work B_rests_behind_work .nil pass0 (pa_cons (pv 0) pa_nil))) (pg_tup rfl (pgs_cons (pg_name (i := 3) sc_weekly_rests_not_made_up_for.nd rfl (Or.inl rfl)) (pgs_cons (pg_name (i := 4) sc_weekly_rests_not_made_up_for.nd rfl (Or.inl rfl)) pgs_nil))) (pss_cons (ps_set (i := 2) sc_weekly_rests_not_made_up_for.nd rfl (Or.inl rfl) (pe_call G_debts_left (hr.mono (by decide)) (by rfl) g_debts_left k_debts_left B_debts_left .nil pass0 (pa_cons (pv 2) (pa_cons (pv 3) (pa_cons (pe_call G_spare_of (hr.mono (by decide)) (by rfl) g_spare_of k_spare_of B_spare_of .nil pass0 (pa_cons (pe_op op_sub (pv 4) (pv 3)) pa_nil)) pa_nil)))))
      (pss_one (ps_if (pt_val (pe_call G_is_short (hr.mono (by decide)) (by rfl) g_is_short k_is_short B_is_short .nil pass0 (pa_cons (pv 3) (pa_cons (pv 4) (pa_cons (pv 1) pa_nil))))) (pss_one (ps_expr (pe_bm PySem.F.plainAttrs_list PySem.F.slot_list_append PySem.F.type_list_append mt_append (pv 2) (pa_cons (pe_tup (pa_cons (pe_call G_due_minute (hr.mono (by decide)) (by rfl) g_due_minute k_due_minute B_due_minute .nil pass0 (pa_cons (pv 4) pa_nil)) (pa_cons (pe_call G_lacking (hr.mono (by decide)) (by rfl) g_lacking k_lacking B_lacking .nil pass0 (pa_cons (pv 3) (pa_cons (pv 4) pa_nil))) pa_nil))) pa_nil)))) pss_nil))))
      (pss_one (ps_ret (pe_lc (own := [("due", 5), ("minutes", 6)]) (g := (gTup K 2 (gCons (gName 5) (gCons (gName 6) gNil)))) (by rfl) sc_weekly_rests_not_made_up_for.nd (pi_list (pv 2)) (blkOk_by (own := [("due", 5), ("minutes", 6)]) (N := N_weekly_rests_not_made_up_for) (sc := defScope s_weekly_rests_not_made_up_for) (by decide +kernel)) (fun _ _ _ _ _ => (pg_tup rfl (pgs_cons (pg_name (i := 5) sc_weekly_rests_not_made_up_for.nd rfl (Or.inl rfl)) (pgs_cons (pg_name (i := 6) sc_weekly_rests_not_made_up_for.nd rfl (Or.inl rfl)) pgs_nil)))) (fun _ _ _ _ _ => (pts_one (pt_cmpR op_le (pv 5) (pv 1) (nomark _)))) (fun _ _ _ _ _ => (pe_tup (pa_cons (pv 5) (pa_cons pe_int (pa_cons (pv 6) pa_nil)))))))))), ?_⟩)
  · obtain ⟨a, l, e, rfl, _⟩ := h
    rfl
  · obtain ⟨a, l, e, rfl, hR, hL, k⟩ := h
    refine ⟨Nat.zero_le _, fun o no => ?_⟩
    have s0 : Same H (upd H o (.lst [])) := same_next (Same.refl H) no
    refine ⟨_, rfl, a, l, rfl, hR.same s0, hL.len, fun H1 p1 r1 => ?_⟩
    have s1 : Same H H1 := s0.trans r1.same
    obtain ⟨ps, hS, hT⟩ := r1.rows.read (K := K)
    have hrl := Nat.le_trans (@restsOf_len l) hL.len
    refine ⟨p1, rfl, ⟨_, hS⟩, for_list (K := K) (a := p1) (xs := ps.map V.ref) (fun i σ H' => ∃ (d : Addr) (v3 v4 : Option V) (cur : List Debt), σ = [some (.ref a), some (.int e), some (.ref d), v3, v4, none, none] ∧ Same H1 H' ∧ RowsW H' d (cur.map dr) ∧ owed e [] (restsOf l) = owed e cur ((restsOf l).drop i) ∧ cur.length ≤ i)
      ⟨o, _, _, [], rfl, Same.refl H1, RowsW.nil.same r1.same, rfl, Nat.le_refl _⟩ (fun i σ H' _ ⟨_, _, _, _, _, b, _⟩ => b.seq hS) ?_ ?_⟩
    · rintro i v σ H' hi ⟨d, v3, v4, cur, rfl, sm, hR', hD, hdl⟩
      obtain ⟨p, y, rfl, hy, hp⟩ := hT.item hi
      have hyi := lt_of_get hy
      have hp' : H' p = some (.tup (ivs (pr y))) := sm _ _ hp
      have hyl := hL.all y (restsOf_sub y (List.mem_of_getElem? hy))
      have hel := hL.le
      rw [drop_one hy, owed] at hD
      refine ⟨p, _, rfl, SqT.of hp', rfl, _, _, rfl, _, _, rfl, rfl, ?_⟩
      refine ⟨_, rfl, _, rfl, _, rfl, _, rfl, _, _, rfl, rfl, _, rfl, ?_⟩
      rw [spareI_is (Nat.le_of_lt hyl.1)]
      refine ⟨d, cur, y.from_, Kg70.spare y, rfl, hR'.read, by omega, fun H3 d3 r3 => ?_⟩
      have hpl := len_payS (Kg70.spare y) y.from_ cur
      have s3 : Same H1 H3 := sm.trans r3.same
      refine ⟨_, rfl, _, rfl, _, rfl, _, _, _, rfl, ?_⟩
      rw [shortI_is (Nat.le_of_lt hyl.1)]
      refine ⟨_, rfl, ?_⟩
      rw [newDebt_is] at hD
      cases hs : (isWk y && shortAt e y) with
      | false =>
        refine if_false_of rfl ?_
        rw [hs, if_neg (by decide), List.append_nil] at hD
        exact ⟨_, _, _, _, rfl, s3, r3.rows, hD, by omega⟩
      | true =>
        refine if_true_of rfl ?_
        rw [hs, if_pos rfl] at hD
        have hlg : y.till - y.from_ < 2700 := by
          unfold shortAt at hs
          rw [Bool.and_eq_true, Bool.and_eq_true] at hs
          exact of_decide_eq_true hs.2.1
        refine app2 rfl r3.rows (by rw [List.length_map]; omega) (fun Q q => ⟨_, rfl, y.till, rfl, by omega, q⟩) (fun Q q => ⟨_, rfl, _, rfl, _, _, rfl, q⟩) fun H4 hR4 b4 => ?_
        refine ⟨_, _, _, _, rfl, but_same s3 (same_back sm r3.new) b4, ?_, hD, by rw [List.length_append]; simp; omega⟩
        have e2 : (2700 : Int) - ((y.till : Int) - (y.from_ : Int)) = ((Kg70.WHOLE - y.long : Nat) : Int) := by
          show _ = ((2700 - (y.till - y.from_) : Nat) : Int)
          omega
        rw [e2] at hR4
        rw [List.map_append]
        exact hR4
    · rintro σ H' ⟨d, v3, v4, cur, rfl, sm, hR', hD, hdl⟩
      rw [List.length_map, hT.len, List.length_map] at hD hdl
      rw [List.drop_length, owed] at hD
      obtain ⟨qs, hqS, hqT⟩ := hR'.read (K := K)
      refine ⟨_, rfl, d, rfl, ⟨_, hqS⟩, fun D nD => lc_list (K := K) (a := d) (xs := qs.map V.ref) (fun i H2 => Same H' H2 ∧ RowsW H2 D ((dues e (cur.take i)).map br)) ⟨same_next (Same.refl H') nD, RowsW.nil⟩ (fun i H2 _ h => h.1.seq hqS) (fun i v H2 hi hP => ?_) (fun H2 hP => ?_)⟩
      · obtain ⟨sm2, hR2⟩ := hP
        obtain ⟨p, x, rfl, hx, hp⟩ := hqT.item hi
        have hxi := lt_of_get hx
        have hsn : dues e (cur.take (i + 1)) = dues e (cur.take i) ++ (if duesB e x = true then [⟨7, x.by_, x.minutes⟩] else []) := by
          unfold dues duesB
          rw [take_one hx, List.filter_append, List.filter_cons, List.filter_nil, List.map_append]
          split <;> rfl
        refine ⟨p, _, rfl, SqT.of (sm2 _ _ hp), rfl, _, _, rfl, _, _, rfl, rfl, rfl, ?_⟩
        refine ⟨_, rfl, _, rfl, _, _, rfl, rfl, _, rfl, if_dec (fun c => ?_) (fun c => ?_)⟩
        · have c' : duesB e x = true := decide_eq_true (by omega)
          rw [if_pos c'] at hsn
          obtain ⟨qs, e2, tq⟩ := hR2
          refine ⟨_, rfl, _, rfl, (by show 3 ≤ sizeLine; decide), fun t ht => ?_⟩
          have hto : D ≠ t := fun q => by rw [← q, e2] at ht; cases ht
          refine ⟨_, (upd_ne hto).trans e2, ?_, same_new (same_next sm2 ht) nD, ?_⟩
          · rw [List.length_map, tq.len, List.length_map]
            have h1 := len_dues e (cur.take i)
            rw [List.length_take] at h1
            exact szl (by omega)
          · rw [hsn, List.map_append]
            exact RowsW.put (r := br ⟨7, x.by_, x.minutes⟩) e2 tq ht
        · have c' : ¬ duesB e x = true := fun q => c (by have := of_decide_eq_true q; omega)
          rw [if_neg c', List.append_nil] at hsn
          rw [hsn]
          exact ⟨sm2, hR2⟩
      · obtain ⟨sm2, hR2⟩ := hP
        rw [List.length_map, hqT.len, List.length_map, List.take_length] at hR2
        refine k _ _ ⟨s1.trans (sm.trans sm2), same_back (s1.trans sm) nD, ?_⟩
        have ek : unpaid e l = dues e (owed e [] (restsOf l)) := rfl
        rw [ek, hD]
        exact hR2
end
end Dh

end
section
set_option Elab.async false
set_option maxRecDepth 100000
set_option maxHeartbeats 4000000
namespace Dh
open PySem PySem.Spec PyProof.Rows L2
open Kg70 (Stretch Told line total Broken Run Day Debt sixDays twoShort inWeek)
/-- a test of numbers, the heap as it is -/
abbrev Gt (t : TT) (σ : L2.St) (H : Hp) (b : Bool) : Prop := ∀ Q : Bool → Hp → Prop, Q b H → t σ H Q
/-- if b: xs.append((a, b, c)) -/
theorem ifapp3 {K : PySem.W.Frag} {D : Ends} {σ : L2.St} {H : Hp} {i : Nat} {o : Addr} {l : List (List Int)} {t : TT} {ta tb tc : TE} {b : Bool} {x y z : Int} (ht : Gt t σ H b) (hi : σ[i]? = some (some (.ref o))) (ho : RowsW H o l) (hl : l.length ≤ 100000)
    (ha : b = true → Gv ta σ H (.int x)) (hb : b = true → Gv tb σ H (.int y)) (hc : b = true → Gv tc σ H (.int z)) (k : ∀ H', RowsW H' o (if b = true then l ++ [[x, y, z]] else l) → But o H H' → D.nx σ H') :
    tIfS t (tDrop (tBM K "list" rAppend (tVar i) (tCons (tTup (tCons ta (tCons tb (tCons tc tNil)))) tNil))) tNext D σ H := by
  refine ht _ ?_
  cases b with
  | true => exact if_true_of rfl (app3 hi ho hl (ha rfl) (hb rfl) (hc rfl) (by rw [if_pos rfl] at k; exact k))
  | false => exact if_false_of rfl (k _ (by rw [if_neg (by decide)]; exact ho) (but_refl o H))
theorem ixN_nat' {n j : Nat} (hj : j < n) : ixN n (j : Int) = some j := by
  unfold ixN
  rw [if_pos (by omega), if_pos (by omega)]
  rfl
abbrev nvs (l : List Nat) : List V := l.map fun (n : Nat) => V.int (n : Int)
theorem nv_set (l : List Nat) (i v : Nat) : (nvs l).set i (.int (v : Int)) = nvs (l.set i v) := by
  unfold nvs
  rw [List.map_set]
theorem gvN_add {ta tb : TE} {σ : L2.St} {H : Hp} {x y : Nat} (ha : Gv ta σ H (.int x)) (hb : Gv tb σ H (.int y)) (Q : VK) (q : Q (.int ((x + y : Nat) : Int)) H) : tOp (rI0 fun i j => .int (i + j)) ta tb σ H Q :=
  ha _ (hb _ ⟨x, y, rfl, rfl, by
    show Q (.int ((x : Int) + (y : Int))) H
    rw [← Int.natCast_add]
    exact q⟩)
theorem gvN_sub {ta tb : TE} {σ : L2.St} {H : Hp} {x y : Nat} (ha : Gv ta σ H (.int x)) (hb : Gv tb σ H (.int y)) (h : y ≤ x) (Q : VK) (q : Q (.int ((x - y : Nat) : Int)) H) : tOp (rI0 fun i j => .int (i - j)) ta tb σ H Q :=
  ha _ (hb _ ⟨x, y, rfl, rfl, by
    show Q (.int ((x : Int) - (y : Int))) H
    rw [← Int.natCast_sub h]
    exact q⟩)
theorem gvN_mul {ta tb : TE} {σ : L2.St} {H : Hp} {x y : Nat} (ha : Gv ta σ H (.int x)) (hb : Gv tb σ H (.int y)) (h : x ≤ 1000000000000) (Q : VK) (q : Q (.int ((x * y : Nat) : Int)) H) : tOp (rI CMul fun i j => .int (i * j)) ta tb σ H Q :=
  ha _ (hb _ ⟨x, y, rfl, rfl, .inl (by omega), by
    show Q (.int ((x : Int) * (y : Int))) H
    rw [← Int.natCast_mul]
    exact q⟩)
theorem gvN_div {ta tb : TE} {σ : L2.St} {H : Hp} {x y : Nat} (ha : Gv ta σ H (.int x)) (hb : Gv tb σ H (.int y)) (h : 0 < y ∧ y < 1073741824) (Q : VK) (q : Q (.int ((x / y : Nat) : Int)) H) : tOp (rI CDiv fun i j => .int (i / j)) ta tb σ H Q :=
  ha _ (hb _ ⟨x, y, rfl, rfl, (by constructor <;> omega), by
    show Q (.int ((x : Int) / (y : Int))) H
    rw [← Int.natCast_ediv]
    exact q⟩)
theorem gvN_min {ta tb : TE} {σ : L2.St} {H : Hp} {x y : Nat} (ha : Gv ta σ H (.int x)) (hb : Gv tb σ H (.int y)) (Q : VK) (q : Q (.int ((min x y : Nat) : Int)) H) : tCB (fun xs H Q => ∃ i j, xs = [.int i, .int j] ∧ Q (.int (if j < i then j else i)) H) (tCons ta (tCons tb tNil)) σ H Q :=
  ha _ (hb _ ⟨x, y, rfl, by
    have e : (if (y : Int) < (x : Int) then (y : Int) else (x : Int)) = ((min x y : Nat) : Int) := by split <;> omega
    rw [e]
    exact q⟩)
theorem gtN_lt {ta tb : TE} {σ : L2.St} {H : Hp} {x y : Nat} (ha : Gv ta σ H (.int x)) (hb : Gv tb σ H (.int y)) (Q : Bool → Hp → Prop) (q : Q (decide (x < y)) H) : tTest (tOp (rI0 fun i j => .bl (decide (i < j))) ta tb) σ H Q :=
  ha _ (hb _ ⟨x, y, rfl, rfl, _, rfl, by rw [decide_eq_decide.mpr (show (x : Int) < y ↔ x < y by omega)]; exact q⟩)
theorem gtN_gt {ta tb : TE} {σ : L2.St} {H : Hp} {x y : Nat} (ha : Gv ta σ H (.int x)) (hb : Gv tb σ H (.int y)) (Q : Bool → Hp → Prop) (q : Q (decide (y < x)) H) : tTest (tOp (rI0 fun i j => .bl (decide (j < i))) ta tb) σ H Q :=
  ha _ (hb _ ⟨x, y, rfl, rfl, _, rfl, by rw [decide_eq_decide.mpr (show (y : Int) < x ↔ y < x by omega)]; exact q⟩)
theorem s_set {i : Nat} {te : TE} {v : V} {u : TS} {D : Ends} {σ : L2.St} {H : Hp} (h : Gv te σ H v) (k : u D (σ.set i (some v)) H) : tSeq (tAsg te (gName i)) u D σ H := h _ k
theorem s_setL {i : Nat} {te : TE} {v : V} {D : Ends} {σ : L2.St} {H : Hp} (h : Gv te σ H v) (k : D.nx (σ.set i (some v)) H) : tAsg te (gName i) D σ H := h _ k
theorem gvN_c {σ : L2.St} {H : Hp} {n : Nat} (Q : VK) (q : Q (.int (n : Int)) H) : tC (.int (n : Int)) σ H Q := q
/-- xs[i] += e, of a list of numbers -/
theorem s_itemaug {K : PySem.W.Frag} {to ti te : TE} {D : Ends} {u : TS} {σ : L2.St} {H : Hp} {a : Addr} {l : List Nat} {i v y : Nat} (ho : Gv to σ H (.ref a)) (hi : Gv ti σ H (.int (i : Int))) (ha : H a = some (.lst (nvs l))) (hv : l[i]? = some v) (he : Gv te σ H (.int (y : Int)))
    (k : u D σ (upd H a (.lst (nvs (l.set i (v + y)))))) : tSeq (tAugS to ti te (rIxL K) (ipI fun i j => i + j) rSetL) u D σ H := by
  have hget : (nvs l)[i]? = some (.int (v : Int)) := by
    unfold nvs
    rw [List.getElem?_map, hv]
    rfl
  refine ho _ (hi _ ⟨a, _, _, _, rfl, rfl, SqL.of ha, atI_nat hget, he _ ⟨_, _, rfl, rfl, a, _, _, _, rfl, rfl, ha, ixN_nat' (by unfold nvs; rw [List.length_map]; exact (List.getElem?_eq_some_iff.mp hv).1), ?_⟩⟩)
  show u D σ (upd H a (.lst ((nvs l).set i (.int ((v : Int) + (y : Int))))))
  rw [← Int.natCast_add, nv_set]
  exact k
section
variable {P : Program} {w : World} {K : PySem.W.Frag} {mg : Str → Option Value} {base : Heap} {CS CD CV : Addr}
def spShare : Sp := fun vs H Q _ => ∃ (a : Addr) (ds : List Nat) (s e : Nat), vs = [.ref a, .int s, .int e] ∧ H a = some (.lst (nvs ds)) ∧ s ≤ e ∧ e ≤ 100000000 ∧ e ≤ ds.length * 10080 ∧ ds.length ≤ 100000 ∧
  ∀ H', H' a = some (.lst (nvs (addShare s e 0 ds))) → But a H H' → Q .non H'
theorem ok_share_out {f : Addr} {fd : FuncData} (F : Fun K "share_out" "share_out" s_share_out f fd) (T : Txt K mg CS CD CV) : FnOk P w K mg base CX0 1 f fd ["driven", "start", "stop"] spShare := by
  refine F.ok sc_share_out (fun vs H Q E h => ?_) (fun cdv A outer s H vs Q E hr h => ⟨_, (pss_cons (ps_set (i := 3) sc_share_out.nd rfl (Or.inl rfl) (pv 1))
      (pss_one (ps_while PassesOwn.never (pt_cmpR op_lt (pv 3) (pv 2) (nomark _)) (pss_cons (ps_set (i := 4) sc_share_out.nd rfl (Or.inl rfl) (pe_op op_fdiv (pv 3) (pe_k rfl T.c_WEEK_weeks)))
      (pss_cons (ps_set (i := 5) sc_share_out.nd rfl (Or.inl rfl) (pe_callB (call_min2 rfl) (by rfl) T.b_min (by decide +kernel) (pa_cons (pv 2) (pa_cons (pe_op op_mul (pe_op op_add (pv 4) pe_int) (pe_k rfl T.c_WEEK_weeks)) pa_nil))))
      (pss_cons (ps_augS (pv 0) (pv 4) get_list (pe_op op_sub (pv 5) (pv 3)) ip_add set_list)
      (pss_one (ps_set (i := 3) sc_share_out.nd rfl (Or.inl rfl) (pv 5))))))))), ?_⟩)
  · obtain ⟨a, ds, s, e, rfl, _⟩ := h
    rfl
  · obtain ⟨a, ds, s, e, rfl, ha, hse, he, hel, hdl, k⟩ := h
    refine ⟨_, rfl, ?_⟩
    refine ⟨fun m σ H' => ∃ (t : Nat) (v4 v5 : Option V), σ = [some (.ref a), some (.int s), some (.int e), some (.int t), v4, v5] ∧ m = e - t ∧ s ≤ t ∧ t ≤ e ∧ H' a = some (.lst (nvs (addShare s t 0 ds))) ∧ But a H H',
      ⟨_, s, _, _, rfl, rfl, Nat.le_refl _, hse, by rw [addShare_none]; exact ha, but_refl a H⟩, ?_⟩
    rintro m σ H' ⟨t, v4, v5, rfl, rfl, h1, h2, h3, b⟩
    refine ⟨_, rfl, _, rfl, _, _, rfl, rfl, _, rfl, if_dec (fun c => ?_) (fun c => ?_)⟩
    · have hte : t < e := by omega
      refine ⟨fun σ' H2 => ∃ m', m' < e - t ∧ ∃ (t : Nat) (v4 v5 : Option V), σ' = [some (.ref a), some (.int s), some (.int e), some (.int t), v4, v5] ∧ m' = e - t ∧ s ≤ t ∧ t ≤ e ∧ H2 a = some (.lst (nvs (addShare s t 0 ds))) ∧ But a H H2, fun σ' H' h => h, ?_⟩
      have hW : Kg70.WEEK = 10080 := rfl
      have hwk : t / 10080 < ds.length := by omega
      have hk : ∃ v, (addShare s t 0 ds)[t / 10080]? = some v := ⟨_, List.getElem?_eq_getElem (by rw [addShare_len]; exact hwk)⟩
      obtain ⟨v, hv⟩ := hk
      have hstep := addShare_step s t e ds v h1 hte hv
      rw [hW] at hstep
      refine s_set (gvN_div gv_var (gvN_c (n := 10080)) (by omega)) ?_
      refine s_set (gvN_min gv_var (gvN_mul (gvN_add gv_var (gvN_c (n := 1))) (gvN_c (n := 10080)) (by have : t / 10080 ≤ t := Nat.div_le_self _ _; omega))) ?_
      refine s_itemaug gv_var gv_var h3 hv (gvN_sub gv_var gv_var (by omega)) ?_
      rw [hstep]
      refine ⟨_, rfl, e - min e ((t / 10080 + 1) * 10080), by omega, _, _, _, rfl, rfl, by omega, by omega, upd_same, fun c u q n => ?_⟩
      rw [upd_ne n]
      exact b c u q n
    · have : t = e := by omega
      subst this
      exact k _ h3 b
def spByWeek (K : PySem.W.Frag) : Sp := fun vs H Q _ => ∃ (a : Addr) (l : List Stretch), vs = [.ref a] ∧ RowsR K H a (l.map sr) ∧ l.length ≤ 1000 ∧ Line 0 none l ∧ endOf 0 l ≤ 100000000 ∧
  ∀ H' p, Same H H' → H p = none → H' p = some (.lst (nvs (byWeek l (endOf 0 l)))) → Q (.ref p) H'
theorem ok_driving_by_week {f : Addr} {fd : FuncData} (F : Fun K "driving_by_week" "driving_by_week" s_driving_by_week f fd) (T : Txt K mg CS CD CV) (D1 : Kn P w K mg base 1 "share_out" ["driven", "start", "stop"] spShare) :
    FnOk P w K mg base CX0 2 f fd ["stretches"] (spByWeek K) := by
  obtain ⟨f_share_out, fd_share_out, G_share_out, g_share_out, k_share_out, B_share_out⟩ := D1
  refine F.ok sc_driving_by_week (fun vs H Q E h => ?_) (fun cdv A outer s H vs Q E hr h => ⟨_, (pss_cons (ps_set (i := 1) sc_driving_by_week.nd rfl (Or.inl rfl) (pe_lst pa_nil))
      (pss_cons (ps_for PassesOwn.never rfl (pi_list (pv 0)) (pg_tup rfl (pgs_cons (pg_name (i := 2) sc_driving_by_week.nd rfl (Or.inl rfl)) (pgs_cons (pg_name (i := 3) sc_driving_by_week.nd rfl (Or.inl rfl)) (pgs_cons (pg_name (i := 4) sc_driving_by_week.nd rfl (Or.inl rfl)) pgs_nil)))) (pss_cons (ps_while PassesOwn.never (pt_cmpR op_lt (pe_op op_mul (pe_callB call_len_seq (by rfl) T.b_len (by decide +kernel) (pa_cons (pv 1) pa_nil)) (pe_k rfl T.c_WEEK_weeks)) (pv 4) (nomark _)) (pss_one (ps_expr (pe_bm PySem.F.plainAttrs_list PySem.F.slot_list_append PySem.F.type_list_append mt_append (pv 1) (pa_cons pe_int pa_nil)))))
      (pss_one (ps_if (pt_cmpR op_eq (pv 2) (pe_k rfl T.c_DRIVING) (nomark _)) (pss_one (ps_expr (pe_call G_share_out (hr.mono (by decide)) (by rfl) g_share_out k_share_out B_share_out .nil pass0 (pa_cons (pv 1) (pa_cons (pv 3) (pa_cons (pv 4) pa_nil)))))) pss_nil))))
      (pss_one (ps_ret (pv 1))))), ?_⟩)
  · obtain ⟨a, l, rfl, _⟩ := h
    rfl
  · obtain ⟨a, l, rfl, ⟨ps, hS, hT⟩, hlen, hLn, hE, k⟩ := h
    refine ⟨Nat.zero_le _, fun o no => ?_⟩
    have s0 : Same H (upd H o (.lst [])) := same_next (Same.refl H) no
    have hW : Kg70.WEEK = 10080 := rfl
    refine ⟨_, rfl, a, rfl, ⟨_, s0.seq hS⟩, for_list (K := K) (a := a) (xs := ps.map V.ref) (fun i σ H' => ∃ (v2 v3 v4 : Option V), σ = [some (.ref a), some (.ref o), v2, v3, v4] ∧ Same H H' ∧ H' o = some (.lst (nvs ((List.range (nWeeks (endOf 0 (l.take i)))).map (inWeek (l.take i))))))
      ⟨_, _, _, rfl, s0, by
        show _ = some (HO.lst (nvs (List.map _ (List.range (nWeeks 0)))))
        rw [show nWeeks 0 = 0 from by decide]
        exact upd_same⟩ (fun i σ H' _ ⟨_, _, _, _, b, _⟩ => b.seq hS) ?_ ?_⟩
    · rintro i v σ H' hi ⟨v2, v3, v4, rfl, sm, hR'⟩
      obtain ⟨p, y, rfl, hy, hp⟩ := hT.item hi
      have hp' : H' p = some (.tup (ivs (sr y))) := sm _ _ hp
      obtain ⟨hy1, hy2⟩ := line_at l 0 none i y hLn hy
      have hyl := till_le l 0 none hLn y (List.mem_of_getElem? hy)
      have htl := line_till (i := i) hLn
      rw [hy2, take_one hy]
      refine ⟨p, _, rfl, SqT.of hp', rfl, _, _, rfl, _, _, rfl, _, _, rfl, rfl, ?_⟩
      -- the weeks up to this stretch's end
      refine ⟨fun m σ H2 => ∃ n, σ = [some (.ref a), some (.ref o), some (.int y.kind), some (.int y.from_), some (.int y.till)] ∧ m = nWeeks y.till - n ∧ nWeeks (endOf 0 (l.take i)) ≤ n ∧ n ≤ nWeeks y.till ∧ Same H H2 ∧ H2 o = some (.lst (nvs ((List.range n).map (inWeek (l.take i))))),
        ⟨_, nWeeks (endOf 0 (l.take i)), rfl, rfl, Nat.le_refl _, nWeeks_le (by omega), sm, hR'⟩, ?_⟩
      rintro m σ H2 ⟨n, rfl, rfl, hn1, hn2, sm2, hR2⟩
      have hlen2 : (nvs ((List.range n).map (inWeek (l.take i)))).length = n := by simp
      have hn3 : nWeeks y.till ≤ 10000 := by simp only [nWeeks, hW]; omega
      refine ⟨.ref o, rfl, o, _, rfl, .inl (SqL.of hR2), _, _, rfl, rfl, .inl ?_, _, rfl, _, _, rfl, rfl, _, rfl, ?_⟩
      · rw [hlen2]
        omega
      rw [hlen2]
      refine if_dec (fun c => ?_) (fun c => ?_)
      · refine ⟨fun σ' H3 => ∃ m', m' < nWeeks y.till - n ∧ ∃ n, σ' = [some (.ref a), some (.ref o), some (.int y.kind), some (.int y.from_), some (.int y.till)] ∧ m' = nWeeks y.till - n ∧ nWeeks (endOf 0 (l.take i)) ≤ n ∧ n ≤ nWeeks y.till ∧ Same H H3 ∧ H3 o = some (.lst (nvs ((List.range n).map (inWeek (l.take i))))), fun σ' H' h => h, ?_⟩
        have hn4 : n < nWeeks y.till := by simp only [nWeeks, hW]; omega
        refine ⟨.ref o, rfl, .inl ⟨rfl, _, SqL.of hR2⟩, o, _, _, rfl, rfl, hR2, ?_, ?_⟩
        · rw [hlen2]
          exact szl (by omega)
        · refine ⟨nWeeks y.till - (n + 1), by omega, n + 1, rfl, rfl, by omega, by omega, same_new sm2 no, ?_⟩
          rw [upd_same, ← byWeek_more (l.take i) n (endOf 0 (l.take i)) htl (by simp only [nWeeks, hW] at hn1 ⊢; omega)]
          unfold nvs
          rw [List.map_append]
          rfl
      · have hn4 : n = nWeeks y.till := by
          have : ¬ n < nWeeks y.till := fun q => c (by simp only [nWeeks, hW] at q; omega)
          omega
        subst hn4
        refine ⟨_, rfl, rfl, _, rfl, if_dec (fun c1 => ?_) (fun c1 => ?_)⟩
        · have hk : y.kind = 1 := by have := int_eq.mp c1; omega
          refine ⟨_, rfl, _, rfl, _, rfl, o, _, y.from_, y.till, rfl, hR2, by omega, by omega, ?_, ?_, fun H3 h3 b3 => ?_⟩
          · simp only [List.length_map, List.length_range, nWeeks, hW]
            omega
          · simp only [List.length_map, List.length_range]
            omega
          · rw [byWeek_share _ _ _ hk] at h3
            exact ⟨_, _, _, rfl, but_same sm2 no b3, h3⟩
        · have hk : ¬ y.kind = 1 := fun q => c1 (int_eq.mpr (by omega))
          rw [byWeek_idle _ _ _ hk] at hR2
          exact ⟨_, _, _, rfl, sm2, hR2⟩
    · rintro σ H' ⟨v2, v3, v4, rfl, sm, hR'⟩
      rw [List.length_map, hT.len, List.length_map, List.take_length] at hR'
      exact ⟨_, rfl, k _ _ sm no hR'⟩
def spWeeks (K : PySem.W.Frag) : Sp := fun vs H Q _ => ∃ (a : Addr) (l : List Stretch), vs = [.ref a] ∧ RowsR K H a (l.map sr) ∧ l.length ≤ 1000 ∧ Line 0 none l ∧ endOf 0 l ≤ 100000000 ∧
  ∀ H' p, NewRows H H' p ((overWeeks (endOf 0 l) l).map br) → Q (.ref p) H'
theorem byWeek_len (l : List Stretch) (e : Nat) : (byWeek l e).length = nWeeks e := by unfold byWeek; simp
theorem byWeek_le (l : List Stretch) (e : Nat) : ∀ d ∈ byWeek l e, d ≤ Kg70.WEEK * l.length := fun d m => by
  obtain ⟨k, _, rfl⟩ := List.mem_map.mp m
  exact inWeek_le l k
theorem ok_overdriven_weeks {f : Addr} {fd : FuncData} (F : Fun K "overdriven_weeks" "overdriven_weeks" s_overdriven_weeks f fd) (T : Txt K mg CS CD CV) (D1 : Kn P w K mg base 2 "driving_by_week" ["stretches"] (spByWeek K)) :
    FnOk P w K mg base CX0 3 f fd ["stretches"] (spWeeks K) := by
  obtain ⟨f_driving_by_week, fd_driving_by_week, G_driving_by_week, g_driving_by_week, k_driving_by_week, B_driving_by_week⟩ := D1
  refine F.ok sc_overdriven_weeks (fun vs H Q E h => ?_) (fun cdv A outer s H vs Q E hr h => ⟨_, (pss_cons (ps_set (i := 1) sc_overdriven_weeks.nd rfl (Or.inl rfl) (pe_lst pa_nil))
      (pss_cons (ps_set (i := 2) sc_overdriven_weeks.nd rfl (Or.inl rfl) pe_int)
      (pss_cons (ps_for PassesOwn.never rfl (pi_enum (by rfl) T.b_enumerate (pa_cons (pe_call G_driving_by_week (hr.mono (by decide)) (by rfl) g_driving_by_week k_driving_by_week B_driving_by_week .nil pass0 (pa_cons (pv 0) pa_nil)) pa_nil)) (pg_tup rfl (pgs_cons (pg_name (i := 3) sc_overdriven_weeks.nd rfl (Or.inl rfl)) (pgs_cons (pg_name (i := 4) sc_overdriven_weeks.nd rfl (Or.inl rfl)) pgs_nil))) (pss_cons (ps_if (pt_cmpR op_gt (pv 4) (pe_k rfl T.c_MOST_IN_ONE) (nomark _)) (pss_one (ps_expr (pe_bm PySem.F.plainAttrs_list PySem.F.slot_list_append PySem.F.type_list_append mt_append (pv 1) (pa_cons (pe_tup (pa_cons (pe_op op_mul (pv 3) (pe_k rfl T.c_WEEK_weeks)) (pa_cons pe_int (pa_cons (pe_op op_sub (pv 4) (pe_k rfl T.c_MOST_IN_ONE)) pa_nil)))) pa_nil)))) pss_nil)
      (pss_cons (ps_if (pt_cmpR op_gt (pe_op op_add (pv 2) (pv 4)) (pe_k rfl T.c_MOST_IN_TWO) (nomark _)) (pss_one (ps_expr (pe_bm PySem.F.plainAttrs_list PySem.F.slot_list_append PySem.F.type_list_append mt_append (pv 1) (pa_cons (pe_tup (pa_cons (pe_op op_mul (pv 3) (pe_k rfl T.c_WEEK_weeks)) (pa_cons pe_int (pa_cons (pe_op op_sub (pe_op op_add (pv 2) (pv 4)) (pe_k rfl T.c_MOST_IN_TWO)) pa_nil)))) pa_nil)))) pss_nil)
      (pss_one (ps_set (i := 2) sc_overdriven_weeks.nd rfl (Or.inl rfl) (pv 4))))))
      (pss_one (ps_ret (pv 1)))))), ?_⟩)
  · obtain ⟨a, l, rfl, _⟩ := h
    rfl
  · obtain ⟨a, l, rfl, hR, hlen, hLn, hE, k⟩ := h
    refine ⟨Nat.zero_le _, fun o no => ?_⟩
    have s0 : Same H (upd H o (.lst [])) := same_next (Same.refl H) no
    have hW : Kg70.WEEK = 10080 := rfl
    refine ⟨_, rfl, a, l, rfl, hR.same s0, hlen, hLn, hE, fun H1 p1 s1 n1 h1 => ?_⟩
    have ho1 : H1 o = some (.lst []) := s1 _ _ upd_same
    have np1 : p1 ≠ o := fun q => by rw [q, upd_same] at n1; cases n1
    have hS : SqL K H1 p1 (nvs (byWeek l (endOf 0 l))) := SqL.of h1
    have hn : (nvs (byWeek l (endOf 0 l))).length = nWeeks (endOf 0 l) := by unfold nvs; rw [List.length_map, byWeek_len]
    have hn3 : nWeeks (endOf 0 l) ≤ 10000 := by simp only [nWeeks, hW]; omega
    refine ⟨p1, _, rfl, hS, for_it (walk_enum (K := K) (a := p1) (xs := nvs (byWeek l (endOf 0 l)))) (fun i σ H' => ∃ (z : Nat) (v3 v4 : Option V) (done : List Broken), σ = [some (.ref a), some (.ref o), some (.int z), v3, v4] ∧ But o H1 H' ∧ RowsW H' o (done.map br) ∧ overWeeks (endOf 0 l) l = done ++ weekRows i z ((byWeek l (endOf 0 l)).drop i) ∧ done.length ≤ 2 * i)
      ⟨0, _, _, [], rfl, but_refl o H1, ⟨[], ho1, trivial⟩, rfl, Nat.le_refl _⟩ (fun i σ H' _ ⟨_, _, _, _, _, b, _⟩ => seq_but hS np1 b) ?_ ?_⟩
    · rintro i v σ H' H'' hi ⟨z, v3, v4, done, rfl, b, hR', hD, hdl⟩ ⟨t, x, y, rfl, nt, rfl, ex, ey⟩
      cases ex
      obtain ⟨d, hd, rfl⟩ : ∃ d, (byWeek l (endOf 0 l))[i]? = some d ∧ y = .int (d : Int) := by
        have ey : ((byWeek l (endOf 0 l)).map fun (n : Nat) => V.int (n : Int))[i]? = some y := ey
        rw [List.getElem?_map] at ey
        cases q : (byWeek l (endOf 0 l))[i]? with
        | none => rw [q] at ey; cases ey
        | some d => rw [q] at ey; exact ⟨d, rfl, (Option.some.inj ey).symm⟩
      rw [hn] at hi
      rw [drop_one hd, weekRows] at hD
      have bt : But o H1 (upd H' t (.tup [.int (i : Nat), .int d])) := fun c u q n => by
        have := b c u q n
        rw [upd_ne (ne_of_none this nt)]
        exact this
      have hR2 : RowsW (upd H' t (.tup [.int (i : Nat), .int d])) o (done.map br) := hR'.same (same_next (Same.refl H') nt)
      refine ⟨t, _, rfl, SqT.of upd_same, rfl, _, _, rfl, _, _, rfl, rfl, ?_⟩
      refine ifapp3 (b := decide (3360 < d)) (x := ((i * 10080 : Nat) : Int)) (y := 8) (z := ((d - 3360 : Nat) : Int)) (gtN_gt gv_var (gvN_c (n := 3360))) rfl hR2 (by rw [List.length_map]; omega)
        (fun _ => gvN_mul gv_var (gvN_c (n := 10080)) (by omega)) (fun _ => gv_c) (fun c => gvN_sub gv_var (gvN_c (n := 3360)) (by have := of_decide_eq_true c; omega)) fun H3 hR3 b3 => ?_
      have h3 : RowsW H3 o ((done ++ (if 3360 < d then [(⟨8, i * Kg70.WEEK, d - 3360⟩ : Broken)] else [])).map br) := by
        by_cases c : 3360 < d
        · rw [decide_eq_true c, if_pos rfl] at hR3
          rw [if_pos c, List.map_append]
          exact hR3
        · rw [decide_eq_false c, if_neg (by decide)] at hR3
          rw [if_neg c, List.append_nil]
          exact hR3
      have hl3 : (done ++ (if 3360 < d then [(⟨8, i * Kg70.WEEK, d - 3360⟩ : Broken)] else [])).length ≤ 2 * i + 1 := by
        rw [List.length_append]
        split <;> simp <;> omega
      show tSeq _ _ _ _ _
      refine ifapp3 (b := decide (5400 < z + d)) (x := ((i * 10080 : Nat) : Int)) (y := 9) (z := ((z + d - 5400 : Nat) : Int)) (gtN_gt (gvN_add gv_var gv_var) (gvN_c (n := 5400))) rfl h3 (by rw [List.length_map]; omega)
        (fun _ => gvN_mul gv_var (gvN_c (n := 10080)) (by omega)) (fun _ => gv_c) (fun c => gvN_sub (gvN_add gv_var gv_var) (gvN_c (n := 5400)) (by have := of_decide_eq_true c; omega)) fun H4 hR4 b4 => ?_
      refine ⟨_, rfl, d, _, _, (done ++ (if 3360 < d then [(⟨8, i * Kg70.WEEK, d - 3360⟩ : Broken)] else [])) ++ (if 5400 < z + d then [(⟨9, i * Kg70.WEEK, z + d - 5400⟩ : Broken)] else []), rfl, but_trans bt (but_trans b3 b4), ?_, ?_, ?_⟩
      · by_cases c : 5400 < z + d
        · rw [decide_eq_true c, if_pos rfl] at hR4
          rw [if_pos c, List.map_append]
          exact hR4
        · rw [decide_eq_false c, if_neg (by decide)] at hR4
          rw [if_neg c, List.append_nil]
          exact hR4
      · rw [hD]
        simp only [List.append_assoc]
      · have hl4 : (if 5400 < z + d then [(⟨9, i * Kg70.WEEK, z + d - 5400⟩ : Broken)] else []).length ≤ 1 := by split <;> simp
        rw [List.length_append]
        omega
    · rintro σ H' ⟨z, v3, v4, done, rfl, b, hR', hD, hdl⟩
      rw [hn, ← byWeek_len l, List.drop_length, weekRows, List.append_nil] at hD
      refine ⟨_, rfl, k _ _ ⟨but_same (s0.trans s1) no b, no, ?_⟩⟩
      rw [hD]
      exact hR'
end
end Dh

end
section
set_option Elab.async false
set_option maxRecDepth 100000
set_option maxHeartbeats 4000000
namespace Dh
open PySem PySem.Spec PyProof.Rows L2
open Kg70 (Stretch Told line total Broken Day Debt sixDays twoShort inWeek)
/-! ### objects in a list -/
def Objs {α : Type} (At : Hp → Addr → α → Prop) (H : Hp) : List Addr → List α → Prop
  | [], [] => True
  | p :: ps, r :: rs => At H p r ∧ Objs At H ps rs
  | _, _ => False
section
variable {α : Type} {At : Hp → Addr → α → Prop} {H H' : Hp}
theorem Objs.len : ∀ {ps : List Addr} {rs : List α}, Objs At H ps rs → ps.length = rs.length
  | [], [], _ => rfl
  | _ :: _, _ :: _, h => congrArg (· + 1) h.2.len
theorem Objs.sub : ∀ {ps : List Addr} {rs : List α}, Objs At H ps rs → (∀ p r, p ∈ ps → At H p r → At H' p r) → Objs At H' ps rs
  | [], [], _, _ => trivial
  | p :: _, r :: _, h, k => ⟨k p r (List.mem_cons_self ..) h.1, h.2.sub fun q x m => k q x (List.mem_cons_of_mem _ m)⟩
theorem Objs.app : ∀ {ps qs : List Addr} {rs ts : List α}, Objs At H ps rs → Objs At H qs ts → Objs At H (ps ++ qs) (rs ++ ts)
  | [], _, [], _, _, h => h
  | _ :: _, _, _ :: _, _, h, k => ⟨h.1, h.2.app k⟩
theorem Objs.snoc {ps : List Addr} {rs : List α} {p : Addr} {r : α} (h : Objs At H ps rs) (k : At H p r) : Objs At H (ps ++ [p]) (rs ++ [r]) := h.app ⟨k, trivial⟩
theorem Objs.item : ∀ {ps : List Addr} {rs : List α} {i : Nat} {v : V}, Objs At H ps rs → (ps.map V.ref)[i]? = some v → ∃ p x, v = V.ref p ∧ ps[i]? = some p ∧ rs[i]? = some x ∧ At H p x
  | [], [], _, _, _, e => by simp at e
  | p :: _, r :: _, 0, v, h, e => by
    have e1 : V.ref p = v := Option.some.inj e
    subst e1
    exact ⟨p, r, rfl, rfl, rfl, h.1⟩
  | _ :: _, _ :: _, i + 1, v, h, e => Objs.item (i := i) h.2 e
end
theorem lk0 {k : Str} {v : V} {r : List (Str × V)} : List.lookup k ((k, v) :: r) = some v := by
  have e : (k == k) = true := beq_self_eq_true k
  simp only [List.lookup, e]
theorem lk1 {k g : Str} {v : V} {r : List (Str × V)} {o : Option V} (h : (k == g) = false) (n : List.lookup k r = o) : List.lookup k ((g, v) :: r) = o := by
  simp only [List.lookup, h]
  exact n
theorem put0 {f : Str} {v x : V} {r : List (Str × V)} : putF f v ((f, x) :: r) = (f, v) :: r := if_pos rfl
theorem put1 {f g : Str} {v x : V} {r s : List (Str × V)} (h : ¬ g = f) (n : putF f v r = s) : putF f v ((g, x) :: r) = (g, x) :: s := (if_neg h).trans (congrArg _ n)
/-- what a made instance leaves -/
theorem made_same {H H1 : Hp} {x dx C : Addr} (nx : H x = none) (nd : H dx = none) (k : But x (upd (upd H dx (.own x)) x (.ins C dx [])) H1) : Same H H1 := Same.made nx nd k
/-! ### spells -/
def spF (r : Kg70.Run) : List (Str × V) := [("driving", .int r.driven), ("over_at", optV r.over), ("had_first_part", .bl r.part)]
def SpellAt (C : Addr) (H : Hp) (a : Addr) (r : Kg70.Run) : Prop := ∃ dx, H a = some (.ins C dx (spF r))
theorem spF_driving (r : Kg70.Run) : (spF r).lookup ("driving" : Str) = some (.int r.driven) := lk0
theorem spF_over (r : Kg70.Run) : (spF r).lookup ("over_at" : Str) = some (optV r.over) := lk1 (by decide +kernel) lk0
theorem spF_part (r : Kg70.Run) : (spF r).lookup ("had_first_part" : Str) = some (.bl r.part) := lk1 (by decide +kernel) (lk1 (by decide +kernel) lk0)
theorem spF_drive (r : Kg70.Run) : (spF r).lookup ("drive" : Str) = none := lk1 (by decide +kernel) (lk1 (by decide +kernel) (lk1 (by decide +kernel) rfl))
theorem spF_ended (r : Kg70.Run) : (spF r).lookup ("is_ended_by" : Str) = none := lk1 (by decide +kernel) (lk1 (by decide +kernel) (lk1 (by decide +kernel) rfl))
theorem spF_new : putF "had_first_part" (.bl false) (putF "over_at" .non (putF "driving" (.int 0) [])) = spF Kg70.fresh :=
by
  have e1 : putF "over_at" .non [(("driving" : Str), V.int 0)] = [(("driving" : Str), V.int 0), (("over_at" : Str), V.non)] := put1 (by decide +kernel) rfl
  show putF "had_first_part" (.bl false) (putF "over_at" .non [(("driving" : Str), V.int 0)]) = _
  rw [e1]
  exact put1 (by decide +kernel) (put1 (by decide +kernel) rfl)
theorem spF_put_driving (r : Kg70.Run) (n : Nat) : putF "driving" (.int (n : Int)) (spF r) = spF { r with driven := n } := put0
theorem spF_put_over (r : Kg70.Run) (n : Nat) : putF "over_at" (.int (n : Int)) (spF r) = spF { r with over := some n } := put1 (by decide +kernel) put0
theorem spF_put_part (r : Kg70.Run) : putF "had_first_part" (.bl true) (spF r) = spF { r with part := true } := put1 (by decide +kernel) (put1 (by decide +kernel) put0)
theorem SpellAt.but {C o a : Addr} {H H' : Hp} {r : Kg70.Run} (h : SpellAt C H a r) (n : a ≠ o) (b : But o H H') : SpellAt C H' a r := by
  obtain ⟨dx, e⟩ := h
  exact ⟨dx, b _ _ e n⟩
theorem SpellAt.same {C a : Addr} {H H' : Hp} {r : Kg70.Run} (h : SpellAt C H a r) (b : Same H H') : SpellAt C H' a r := by
  obtain ⟨dx, e⟩ := h
  exact ⟨dx, b _ _ e⟩
theorem but_upd {o : Addr} {H : Hp} {x : HO} : But o H (upd H o x) := fun c u q n => by
  rw [upd_ne n]
  exact q
section
variable {P : Program} {w : World} {K : PySem.W.Frag} {mg : Str → Option Value} {base : Heap} {CS CD CV : Addr}
def spSpellInit (C : Addr) : Sp := fun vs H Q _ => ∃ p dx : Addr, vs = [.ref p] ∧ H p = some (.ins C dx []) ∧ ∀ H' : Hp, SpellAt C H' p Kg70.fresh → But p H H' → Q .non H'
theorem ok_Spell_init {f : Addr} {fd : FuncData} (F : Fun K "__init__" "Spell.__init__" s_Spell_init f fd) (T : Txt K mg CS CD CV) : FnOk P w K mg base CX0 1 f fd ["self"] (spSpellInit CS) := by
  refine F.ok sc_Spell_init (fun vs H Q E h => ?_) (fun cdv A outer s H vs Q E hr h => ⟨_, (pss_cons (ps_fld (pv 0) pe_int rfl)
      (pss_cons (ps_fld (pv 0) pe_non rfl)
      (pss_one (ps_fld (pv 0) pe_bl rfl)))), ?_⟩)
  · obtain ⟨p, dx, rfl, _⟩ := h
    rfl
  · obtain ⟨p, dx, rfl, hp, k⟩ := h
    refine ⟨_, rfl, p, CS, dx, _, rfl, hp, T.cl_Spell, T.n_Spell_driving, (by show 0 < 1000; decide), ?_⟩
    refine ⟨_, rfl, p, CS, dx, _, rfl, upd_same, T.cl_Spell, T.n_Spell_over_at, (by show 1 < 1000; decide), ?_⟩
    refine ⟨_, rfl, p, CS, dx, _, rfl, upd_same, T.cl_Spell, T.n_Spell_had_first_part, (by show 2 < 1000; decide), ?_⟩
    refine k _ ⟨dx, ?_⟩ (but_trans but_upd (but_trans but_upd but_upd))
    rw [upd_same]
    exact congrArg (fun q => some (HO.ins CS dx q)) spF_new
def spDrive (C : Addr) : Sp := fun vs H Q _ => ∃ (a : Addr) (r : Kg70.Run) (st : Stretch), vs = [.ref a, .int st.from_, .int st.till] ∧ SpellAt C H a r ∧ st.from_ ≤ st.till ∧ RunOk r ∧ ∀ H' : Hp, SpellAt C H' a (drive r st) → But a H H' → Q .non H'
theorem ok_Spell_drive {f : Addr} {fd : FuncData} (F : Fun K "drive" "Spell.drive" s_Spell_drive f fd) (T : Txt K mg CS CD CV) : FnOk P w K mg base CX0 1 f fd ["self", "start", "stop"] (spDrive CS) := by
  refine F.ok sc_Spell_drive (fun vs H Q E h => ?_) (fun cdv A outer s H vs Q E hr h => ⟨_, (pss_cons (ps_set (i := 3) sc_Spell_drive.nd rfl (Or.inl rfl) (pe_op op_sub (pe_k rfl T.c_MOST_DRIVING_breaks) (pe_fld (pv 0) rfl)))
      (pss_cons (ps_fldaug (pv 0) (pe_op op_sub (pv 2) (pv 1)) in_add)
      (pss_one (ps_if (PW.pt (pw_and (pt_cmpR op_isN (pe_fld (pv 0) rfl) pe_non (nomark _)) (pw_and1 (pt_cmpR op_gt (pe_fld (pv 0) rfl) (pe_k rfl T.c_MOST_DRIVING_breaks) (nomark _))))) (pss_one (ps_fld (pv 0) (pe_op op_add (pv 1) (pv 3)) rfl)) pss_nil)))), ?_⟩)
  · obtain ⟨a, r, st, rfl, _⟩ := h
    rfl
  · obtain ⟨a, r, st, rfl, ⟨dx, ha⟩, hse, hro, k⟩ := h
    refine ⟨_, rfl, a, CS, dx, _, _, rfl, ha, T.cl_Spell, T.n_Spell_driving, spF_driving r, _, _, rfl, rfl, ?_⟩
    refine ⟨_, rfl, a, CS, dx, _, _, rfl, ha, T.cl_Spell, T.n_Spell_driving, spF_driving r, _, rfl, _, rfl, _, _, rfl, rfl, _, _, rfl, rfl, dx, _, ha, (by show 3 < 1000; decide), ?_⟩
    have e1 : (r.driven : Int) + ((st.till : Int) - (st.from_ : Int)) = ((r.driven + st.long : Nat) : Int) := by
      show _ = ((r.driven + (st.till - st.from_) : Nat) : Int)
      omega
    have hD : Kg70.DRIVE = 270 := rfl
    rw [e1, spF_put_driving]
    refine ⟨_, rfl, a, CS, dx, _, _, rfl, upd_same, T.cl_Spell, T.n_Spell_over_at, spF_over _, rfl, _, rfl, ?_⟩
    unfold RunOk at hro
    cases ho : r.over with
    | some t =>
      refine if_false_of rfl (if_false_of rfl ?_)
      refine k _ ⟨dx, ?_⟩ but_upd
      rw [upd_same]
      have : drive r st = { driven := r.driven + st.long, part := r.part, over := some t } := by
        unfold drive
        rw [ho]
      rw [this]
    | none =>
      have h1 := hro.mp ho
      rw [hD] at h1
      refine if_true_of rfl ?_
      refine ⟨_, rfl, a, CS, dx, _, _, rfl, upd_same, T.cl_Spell, T.n_Spell_driving, spF_driving _, _, _, rfl, rfl, _, rfl, if_dec (fun c => ?_) (fun c => ?_)⟩
      · have c' : Kg70.DRIVE < r.driven + st.long := by
          have c : (270 : Int) < ((r.driven + st.long : Nat) : Int) := c
          omega
        refine ⟨_, rfl, _, rfl, _, _, rfl, rfl, _, rfl, a, CS, dx, _, rfl, upd_same, T.cl_Spell, T.n_Spell_over_at, (by show 3 < 1000; decide), ?_⟩
        have e2 : (st.from_ : Int) + (270 - (r.driven : Int)) = ((st.from_ + (Kg70.DRIVE - r.driven) : Nat) : Int) := by omega
        refine k _ ⟨dx, ?_⟩ (but_trans but_upd but_upd)
        rw [upd_same]
        show some (HO.ins CS dx (putF "over_at" (.int ((st.from_ : Int) + (270 - (r.driven : Int)))) (spF { driven := r.driven + st.long, part := r.part, over := none }))) = _
        rw [e2, spF_put_over]
        have : drive r st = { r with driven := r.driven + st.long, over := some (st.from_ + (Kg70.DRIVE - r.driven)) } := by
          unfold drive
          rw [ho]
          dsimp only
          rw [if_pos c']
        rw [this]
      · have c' : ¬ Kg70.DRIVE < r.driven + st.long := fun q => c (by
          show (270 : Int) < ((r.driven + st.long : Nat) : Int)
          omega)
        refine k _ ⟨dx, ?_⟩ but_upd
        rw [upd_same]
        have : drive r st = { driven := r.driven + st.long, part := r.part, over := none } := by
          unfold drive
          rw [ho]
          dsimp only
          rw [if_neg c']
        rw [this]
def spEnded (C : Addr) : Sp := fun vs H Q _ => ∃ (a : Addr) (r : Kg70.Run) (m : Nat), vs = [.ref a, .int m] ∧ SpellAt C H a r ∧ Q (.bl (decide (45 ≤ m) || (r.part && decide (30 ≤ m)))) H
theorem ok_Spell_is_ended_by {f : Addr} {fd : FuncData} (F : Fun K "is_ended_by" "Spell.is_ended_by" s_Spell_is_ended_by f fd) (T : Txt K mg CS CD CV) : FnOk P w K mg base CX0 1 f fd ["self", "minutes"] (spEnded CS) := by
  refine F.ok sc_Spell_is_ended_by (fun vs H Q E h => ?_) (fun cdv A outer s H vs Q E hr h => ⟨_, (pss_cons (ps_if (PW.pt (pw_and (pt_val (pe_fld (pv 0) rfl)) (pw_and1 (pt_cmpR op_ge (pv 1) (pe_k rfl T.c_SECOND_PART) (nomark _))))) (pss_one (ps_ret pe_bl)) pss_nil)
      (pss_one (ps_ret (pe_cmpR op_ge (pv 1) (pe_k rfl T.c_WHOLE_BREAK) (nomark _))))), ?_⟩)
  · obtain ⟨a, r, m, rfl, _⟩ := h
    rfl
  · obtain ⟨a, r, m, rfl, ⟨dx, ha⟩, k⟩ := h
    have e45 : decide ((45 : Int) ≤ (m : Int)) = decide (45 ≤ m) := decide_eq_decide.mpr (by omega)
    refine ⟨_, rfl, a, CS, dx, _, _, rfl, ha, T.cl_Spell, T.n_Spell_had_first_part, spF_part r, _, rfl, ?_⟩
    cases hp : r.part with
    | false =>
      rw [hp, Bool.false_and, Bool.or_false] at k
      refine if_false_of rfl (if_false_of rfl ⟨_, rfl, _, _, rfl, rfl, ?_⟩)
      rw [← e45] at k
      exact k
    | true =>
      rw [hp, Bool.true_and] at k
      refine if_true_of rfl ⟨_, rfl, _, _, rfl, rfl, _, rfl, if_dec (fun c => ?_) (fun c => ?_)⟩
      · have c' : 30 ≤ m := by omega
        rw [decide_eq_true c', Bool.or_true] at k
        exact k
      · have c' : ¬ 30 ≤ m := by omega
        rw [decide_eq_false c', Bool.or_false, ← e45] at k
        exact ⟨_, rfl, _, _, rfl, rfl, k⟩
end
end Dh

end
section
set_option Elab.async false
set_option maxRecDepth 100000
set_option maxHeartbeats 4000000
namespace Dh
open PySem PySem.Spec PyProof.Rows L2
open Kg70 (Stretch Told line total Broken Day Debt sixDays twoShort inWeek)
theorem spells_nil (r : Kg70.Run) : spells r [] = [r] := by rw [spells]
theorem spells_cons (r : Kg70.Run) (s : Stretch) (l : List Stretch) : spells r (s :: l) = if s.kind = 0 then (if endsAt r s = true then r :: spells Kg70.fresh l else spells { r with part := r.part || decide (Kg70.FIRST ≤ s.long) } l)
    else if s.kind = 1 then spells (drive r s) l else spells r l := by rw [spells]
def SpellsAt (C : Addr) (H : Hp) (p : Addr) (rs : List Kg70.Run) : Prop := ∃ ps : List Addr, H p = some (.lst (ps.map V.ref)) ∧ Objs (SpellAt C) H ps rs
theorem Objs.mem {α : Type} {At : Hp → Addr → α → Prop} {H : Hp} : ∀ {ps : List Addr} {rs : List α} {p : Addr}, Objs At H ps rs → p ∈ ps → ∃ r, At H p r
  | [], _, _, _, m => by cases m
  | q :: _, r :: _, p, h, m => by
    rcases List.mem_cons.mp m with e | m
    · rw [e]
      exact ⟨r, h.1⟩
    · exact h.2.mem m
theorem SpellAt.ne {C : Addr} {H : Hp} {p o : Addr} {r : Kg70.Run} {xs : List V} (h : SpellAt C H p r) (ho : H o = some (.lst xs)) : p ≠ o := by
  obtain ⟨dx, e⟩ := h
  exact ne_of e ho (by intro z; cases z)
section
variable {P : Program} {w : World} {K : PySem.W.Frag} {mg : Str → Option Value} {base : Heap} {CS CD CV : Addr}
def spSpells (K : PySem.W.Frag) (C : Addr) : Sp := fun vs H Q _ => ∃ (a : Addr) (l : List Stretch), vs = [.ref a] ∧ RowsR K H a (l.map sr) ∧ l.length ≤ 1000 ∧ (∀ s ∈ l, s.from_ < s.till) ∧
  ∀ H' p, Same H H' → H p = none → SpellsAt C H' p (spells Kg70.fresh l) → Q (.ref p) H'
theorem ok_spells_of {f : Addr} {fd : FuncData} (F : Fun K "spells_of" "spells_of" s_spells_of f fd) (T : Txt K mg CS CD CV) (D1 : Ki P w K mg base CS 1 ["self"] (spSpellInit CS))
    (D2 : Km P w K mg base CS 1 "drive" ["self", "start", "stop"] (spDrive CS)) (D3 : Km P w K mg base CS 1 "is_ended_by" ["self", "minutes"] (spEnded CS)) :
    FnOk P w K mg base CX0 3 f fd ["stretches"] (spSpells K CS) := by
  obtain ⟨f_Spell_init, fd_Spell_init, G_Spell_init, M_Spell, B_Spell_init⟩ := D1
  obtain ⟨f_Spell_drive, fd_Spell_drive, G_Spell_drive, m_Spell_drive, B_Spell_drive⟩ := D2
  obtain ⟨f_Spell_is_ended_by, fd_Spell_is_ended_by, G_Spell_is_ended_by, m_Spell_is_ended_by, B_Spell_is_ended_by⟩ := D3
  refine F.ok sc_spells_of (fun vs H Q E h => ?_) (fun cdv A outer s H vs Q E hr h => ⟨_, (pss_cons (ps_set (i := 1) sc_spells_of.nd rfl (Or.inl rfl) (pe_make0 M_Spell G_Spell_init (hr.mono (by decide)) rfl T.g_Spell B_Spell_init .nil pass0))
      (pss_cons (ps_set (i := 2) sc_spells_of.nd rfl (Or.inl rfl) (pe_lst (pa_cons (pv 1) pa_nil)))
      (pss_cons (ps_for PassesOwn.never rfl (pi_list (pv 0)) (pg_tup rfl (pgs_cons (pg_name (i := 3) sc_spells_of.nd rfl (Or.inl rfl)) (pgs_cons (pg_name (i := 4) sc_spells_of.nd rfl (Or.inl rfl)) (pgs_cons (pg_name (i := 5) sc_spells_of.nd rfl (Or.inl rfl)) pgs_nil)))) (pss_one (ps_if (pt_cmpR op_eq (pv 3) (pe_k rfl T.c_DRIVING) (nomark _)) (pss_one (ps_expr (pe_meth (pv 1) T.cl_Spell m_Spell_drive G_Spell_drive (hr.mono (by decide)) B_Spell_drive .nil pass0 (pa_cons (pv 4) (pa_cons (pv 5) pa_nil))))) (pss_one (ps_if (PW.pt (pw_and (pt_cmpR op_eq (pv 3) (pe_k rfl T.c_REST) (nomark _)) (pw_and1 (pt_val (pe_meth (pv 1) T.cl_Spell m_Spell_is_ended_by G_Spell_is_ended_by (hr.mono (by decide)) B_Spell_is_ended_by .nil pass0 (pa_cons (pe_op op_sub (pv 5) (pv 4)) pa_nil)))))) (pss_cons (ps_set (i := 1) sc_spells_of.nd rfl (Or.inl rfl) (pe_make0 M_Spell G_Spell_init (hr.mono (by decide)) rfl T.g_Spell B_Spell_init .nil pass0))
      (pss_one (ps_expr (pe_bm PySem.F.plainAttrs_list PySem.F.slot_list_append PySem.F.type_list_append mt_append (pv 2) (pa_cons (pv 1) pa_nil))))) (pss_one (ps_if (PW.pt (pw_and (pt_cmpR op_eq (pv 3) (pe_k rfl T.c_REST) (nomark _)) (pw_and1 (pt_cmpR op_ge (pe_op op_sub (pv 5) (pv 4)) (pe_k rfl T.c_FIRST_PART) (nomark _))))) (pss_one (ps_fld (pv 1) pe_bl rfl)) pss_nil)))))))
      (pss_one (ps_ret (pv 2)))))), ?_⟩)
  · obtain ⟨a, l, rfl, _⟩ := h
    rfl
  · obtain ⟨a, l, rfl, ⟨ps, hS, hT⟩, hlen, hft, k⟩ := h
    intro x dx nx nd ne
    refine ⟨x, dx, rfl, upd_same, fun H1 J kp => ⟨rfl, ?_⟩⟩
    have s1 : Same H H1 := made_same nx nd kp
    refine ⟨_, rfl, (by show 1 ≤ sizeLine; decide), fun o no => ?_⟩
    have hox : x ≠ o := fun q => by
      obtain ⟨dj, hj⟩ := J
      rw [q, no] at hj
      cases hj
    have s2 : Same H (upd H1 o (.lst [.ref x])) := same_next s1 no
    refine ⟨_, rfl, a, rfl, ⟨_, s2.seq hS⟩, for_list (K := K) (a := a) (xs := ps.map V.ref) (fun i σ H' => ∃ (x : Addr) (v3 v4 v5 : Option V) (qs : List Addr) (rs : List Kg70.Run) (r : Kg70.Run), σ = [some (.ref a), some (.ref x), some (.ref o), v3, v4, v5] ∧ Same H H' ∧ H x = none ∧ H' o = some (.lst (qs.map V.ref ++ [V.ref x])) ∧ Objs (SpellAt CS) H' qs rs ∧ SpellAt CS H' x r ∧ x ∉ qs ∧ RunOk r ∧ spells Kg70.fresh l = rs ++ spells r (l.drop i) ∧ rs.length ≤ i)
      ⟨x, _, _, _, [], [], Kg70.fresh, rfl, s2, nx, upd_same, trivial, J.same (same_next (Same.refl H1) no), (fun m => by cases m), runOk_fresh, rfl, Nat.le_refl _⟩ (fun i σ H' _ ⟨_, _, _, _, _, _, _, _, b, _⟩ => b.seq hS) ?_ ?_⟩
    · rintro i v σ H' hi ⟨x, v3, v4, v5, qs, rs, r, rfl, sm, nxH, ho, hO, hX, hxq, hro, hD, hrl⟩
      obtain ⟨p, y, rfl, hy, hp⟩ := hT.item hi
      have hyi := lt_of_get hy
      have hp' : H' p = some (.tup (ivs (sr y))) := sm _ _ hp
      have hyl := hft y (List.mem_of_getElem? hy)
      have hyL : y.long = y.till - y.from_ := rfl
      rw [drop_one hy, spells_cons] at hD
      have hxo : x ≠ o := hX.ne ho
      refine ⟨p, _, rfl, SqT.of hp', rfl, _, _, rfl, _, _, rfl, _, _, rfl, rfl, ?_⟩
      refine ⟨_, rfl, rfl, _, rfl, if_dec (fun c => ?_) (fun c => ?_)⟩
      · -- driving
        have c' : y.kind = 1 := by have := int_eq.mp c; omega
        rw [if_neg (by omega), if_pos c'] at hD
        obtain ⟨dj, hj⟩ := id hX
        refine ⟨.ref x, rfl, x, dj, _, rfl, hj, spF_drive r, _, rfl, _, rfl, x, r, y, rfl, hX, by omega, hro, fun H2 hX2 b2 => ?_⟩
        refine ⟨x, _, _, _, qs, rs, drive r y, rfl, but_same sm nxH b2, nxH, b2 _ _ ho hxo.symm, hO.sub (fun q z m h => h.but (fun (e : q = x) => hxq (e ▸ m)) b2), hX2, hxq, runOk_drive r y hro, hD, by omega⟩
      · have c' : ¬ y.kind = 1 := fun q => c (int_eq.mpr (by omega))
        obtain ⟨dj, hj⟩ := id hX
        have em : (y.till : Int) - (y.from_ : Int) = ((y.long : Nat) : Int) := by omega
        refine ⟨_, rfl, rfl, _, rfl, if_dec (fun c1 => ?_) (fun c1 => ?_)⟩
        · have c2 : y.kind = 0 := by have := int_eq.mp c1; omega
          rw [if_pos c2] at hD
          refine ⟨.ref x, rfl, x, dj, _, rfl, hj, spF_ended r, _, rfl, _, rfl, _, _, rfl, rfl, x, r, y.long, by rw [← em]; rfl, hX, ?_⟩
          have ee : (decide (45 ≤ y.long) || (r.part && decide (30 ≤ y.long))) = endsAt r y := rfl
          rw [ee]
          refine ⟨_, rfl, ?_⟩
          cases he : endsAt r y with
          | true =>
            rw [he, if_pos rfl] at hD
            refine if_true_of rfl ?_
            intro x2 dx2 nx2 nd2 ne2
            refine ⟨x2, dx2, rfl, upd_same, fun H2 J2 kp2 => ⟨rfl, ?_⟩⟩
            have s3 : Same H' H2 := made_same nx2 nd2 kp2
            have ho2 : H2 o = some (.lst (qs.map V.ref ++ [V.ref x])) := s3 _ _ ho
            have hlq := hO.len
            refine ⟨_, rfl, .inl ⟨rfl, _, SqL.of ho2⟩, _, rfl, o, _, _, rfl, rfl, ho2, ?_, ?_⟩
            · simp only [List.length_append, List.length_map, List.length_cons, List.length_nil]
              exact szl (by omega)
            have hx2o : x2 ≠ o := J2.ne ho2
            have noH : H o = none := by
              cases q : H o with
              | none => rfl
              | some u =>
                have := s1 o u q
                rw [no] at this
                cases this
            refine ⟨x2, _, _, _, qs ++ [x], rs ++ [r], Kg70.fresh, rfl, same_new (sm.trans s3) noH, same_back sm nx2, ?_, ?_, J2.but hx2o but_upd, ?_, runOk_fresh, by rw [hD, List.append_assoc]; rfl, by simp; omega⟩
            · rw [upd_same, List.map_append]
              rfl
            · refine Objs.snoc (hO.sub fun q z m h => ?_) ?_
              · exact (h.same s3).but (h.ne ho) but_upd
              · exact (hX.same s3).but hxo but_upd
            · intro m
              rcases List.mem_append.mp m with m | m
              · obtain ⟨z, hz⟩ := hO.mem m
                obtain ⟨dz, hz⟩ := hz
                rw [nx2] at hz
                cases hz
              · have e := List.mem_singleton.mp m
                rw [e, hj] at nx2
                cases nx2
          | false =>
            rw [he, if_neg (by decide)] at hD
            refine if_false_of rfl ?_
            refine ⟨_, rfl, rfl, _, rfl, if_true_of (decide_eq_true c1) ?_⟩
            refine ⟨_, rfl, _, rfl, _, _, rfl, rfl, _, _, rfl, rfl, _, rfl, if_dec (fun c3 => ?_) (fun c3 => ?_)⟩
            · have c4 : Kg70.FIRST ≤ y.long := by show 15 ≤ y.long; omega
              rw [decide_eq_true c4, Bool.or_true] at hD
              refine ⟨_, rfl, x, CS, dj, _, rfl, hj, T.cl_Spell, T.n_Spell_had_first_part, (by show 3 < 1000; decide), ?_⟩
              rw [spF_put_part]
              exact ⟨x, _, _, _, qs, rs, { r with part := true }, rfl, but_same sm nxH but_upd, nxH, (upd_ne hxo.symm).trans ho, hO.sub (fun q z m h => h.but (fun (e : q = x) => hxq (e ▸ m)) but_upd), ⟨dj, upd_same⟩, hxq, hro, hD, by omega⟩
            · have c4 : ¬ Kg70.FIRST ≤ y.long := by show ¬ 15 ≤ y.long; omega
              rw [decide_eq_false c4, Bool.or_false] at hD
              exact ⟨x, _, _, _, qs, rs, r, rfl, sm, nxH, ho, hO, hX, hxq, hro, hD, by omega⟩
        · have c2 : ¬ y.kind = 0 := fun q => c1 (int_eq.mpr (by omega))
          rw [if_neg c2, if_neg c'] at hD
          refine if_false_of rfl ?_
          refine ⟨_, rfl, rfl, _, rfl, if_false_of (decide_eq_false c1) ?_⟩
          refine if_false_of rfl ?_
          exact ⟨x, _, _, _, qs, rs, r, rfl, sm, nxH, ho, hO, hX, hxq, hro, hD, by omega⟩
    · rintro σ H' ⟨x, v3, v4, v5, qs, rs, r, rfl, sm, nxH, ho, hO, hX, hxq, hro, hD, hrl⟩
      rw [List.length_map, hT.len, List.length_map, List.drop_length, spells_nil] at hD
      refine ⟨_, rfl, k _ _ sm ?_ ⟨qs ++ [x], ?_, ?_⟩⟩
      · exact same_back s1 no
      · rw [ho, List.map_append]
        rfl
      · rw [hD]
        exact hO.snoc hX
def spMissed (K : PySem.W.Frag) : Sp := fun vs H Q _ => ∃ (a : Addr) (l : List Stretch), vs = [.ref a] ∧ RowsR K H a (l.map sr) ∧ l.length ≤ 1000 ∧ (∀ s ∈ l, s.from_ < s.till) ∧
  ∀ H' p, NewRows H H' p ((missed l).map br) → Q (.ref p) H'
theorem ok_missed_breaks {f : Addr} {fd : FuncData} (F : Fun K "missed_breaks" "missed_breaks" s_missed_breaks f fd) (T : Txt K mg CS CD CV) (D1 : Kn P w K mg base 3 "spells_of" ["stretches"] (spSpells K CS)) :
    FnOk P w K mg base CX0 4 f fd ["stretches"] (spMissed K) := by
  obtain ⟨f_spells_of, fd_spells_of, G_spells_of, g_spells_of, k_spells_of, B_spells_of⟩ := D1
  refine F.ok sc_missed_breaks (fun vs H Q E h => ?_) (fun cdv A outer s H vs Q E hr h => ⟨_, (pss_cons (ps_set (i := 1) sc_missed_breaks.nd rfl (Or.inl rfl) (pe_lst pa_nil))
      (pss_cons (ps_for PassesOwn.never rfl (pi_list (pe_call G_spells_of (hr.mono (by decide)) (by rfl) g_spells_of k_spells_of B_spells_of .nil pass0 (pa_cons (pv 0) pa_nil))) (pg_name (i := 2) sc_missed_breaks.nd rfl (Or.inl rfl)) (pss_one (ps_if (pt_cmpR op_gt (pe_fld (pv 2) rfl) (pe_k rfl T.c_MOST_DRIVING_breaks) (nomark _)) (pss_one (ps_expr (pe_bm PySem.F.plainAttrs_list PySem.F.slot_list_append PySem.F.type_list_append mt_append (pv 1) (pa_cons (pe_tup (pa_cons (pe_fld (pv 2) rfl) (pa_cons pe_int (pa_cons (pe_op op_sub (pe_fld (pv 2) rfl) (pe_k rfl T.c_MOST_DRIVING_breaks)) pa_nil)))) pa_nil)))) pss_nil)))
      (pss_one (ps_ret (pv 1))))), ?_⟩)
  · obtain ⟨a, l, rfl, _⟩ := h
    rfl
  · obtain ⟨a, l, rfl, hR, hlen, hft, k⟩ := h
    refine ⟨Nat.zero_le _, fun o no => ?_⟩
    have s0 : Same H (upd H o (.lst [])) := same_next (Same.refl H) no
    refine ⟨_, rfl, a, l, rfl, hR.same s0, hlen, hft, fun H1 p1 s1 n1 ⟨qs, h1, hO⟩ => ?_⟩
    have ho1 : H1 o = some (.lst []) := s1 _ _ upd_same
    have np1 : p1 ≠ o := fun q => by rw [q, upd_same] at n1; cases n1
    have hS : SqL K H1 p1 (qs.map V.ref) := SqL.of h1
    have hsl := len_spells l Kg70.fresh
    have hok := runOk_spells l Kg70.fresh runOk_fresh
    refine ⟨p1, rfl, ⟨_, hS⟩, for_list (K := K) (a := p1) (xs := qs.map V.ref) (fun i σ H' => ∃ (v2 : Option V), σ = [some (.ref a), some (.ref o), v2] ∧ But o H1 H' ∧ RowsW H' o ((((spells Kg70.fresh l).take i).flatMap Kg70.Run.ends).map br) ∧ (((spells Kg70.fresh l).take i).flatMap Kg70.Run.ends).length ≤ i)
      ⟨_, rfl, but_refl o H1, ⟨[], ho1, trivial⟩, Nat.le_refl _⟩ (fun i σ H' _ ⟨_, _, b, _⟩ => seq_but hS np1 b) ?_ ?_⟩
    · rintro i v σ H' hi ⟨v2, rfl, b, hR', hdl⟩
      obtain ⟨p, r, rfl, hp, hr1, hX⟩ := hO.item hi
      have hri := lt_of_get hr1
      obtain ⟨dj, hj⟩ := hX.but (hX.ne ho1) b
      have hro := hok r (List.mem_of_getElem? hr1)
      unfold RunOk at hro
      have hDr : Kg70.DRIVE = 270 := rfl
      have hsn : ((spells Kg70.fresh l).take (i + 1)).flatMap Kg70.Run.ends = ((spells Kg70.fresh l).take i).flatMap Kg70.Run.ends ++ r.ends := by
        rw [take_one hr1, List.flatMap_append, List.flatMap_cons, List.flatMap_nil, List.append_nil]
      refine ⟨.ref p, rfl, p, CS, dj, _, _, rfl, hj, T.cl_Spell, T.n_Spell_driving, spF_driving r, _, _, rfl, rfl, _, rfl, if_dec (fun c => ?_) (fun c => ?_)⟩
      · cases hv : r.over with
        | none =>
          have := hro.mp hv
          omega
        | some t =>
          have hen : r.ends = [⟨1, t, r.driven - Kg70.DRIVE⟩] := by unfold Kg70.Run.ends; rw [hv]
          refine app3 (x := (t : Int)) (y := 1) (z := (((r.driven - 270 : Nat) : Nat) : Int)) rfl hR' (by rw [List.length_map]; omega)
            (fun Q q => ⟨.ref p, rfl, p, CS, dj, _, _, rfl, hj, T.cl_Spell, T.n_Spell_over_at, spF_over r, by rw [hv]; exact q⟩) gv_c
            (gvN_sub (fun Q q => ⟨.ref p, rfl, p, CS, dj, _, _, rfl, hj, T.cl_Spell, T.n_Spell_driving, spF_driving r, q⟩) (gvN_c (n := 270)) (by omega)) fun H3 hR3 b3 => ?_
          refine ⟨_, rfl, but_trans b b3, ?_, ?_⟩
          · rw [hsn, hen, List.map_append]
            exact hR3
          · rw [hsn, hen, List.length_append]
            simp only [List.length_cons, List.length_nil]
            omega
      · have hen : r.ends = [] := by
          unfold Kg70.Run.ends
          rw [hro.mpr (by omega)]
        rw [hsn, hen, List.append_nil]
        exact ⟨_, rfl, b, hR', by omega⟩
    · rintro σ H' ⟨v2, rfl, b, hR', hdl⟩
      rw [List.length_map, hO.len, List.take_length] at hR'
      exact ⟨_, rfl, k _ _ ⟨but_same (s0.trans s1) no b, no, hR'⟩⟩
end
end Dh

end
section
set_option Elab.async false
set_option maxRecDepth 100000
set_option maxHeartbeats 4000000
namespace Dh
open PySem PySem.Spec PyProof.Rows L2
open Kg70 (Stretch Told line total Broken Day Debt sixDays twoShort inWeek days)
/-! ### days -/
def restFrom (d : Day) : Nat := match d.rest with
  | some r => r.from_
  | none => 0
def restTill (d : Day) : Nat := match d.rest with
  | some r => r.till
  | none => 0
def day6 (a b c d e f : V) : List (Str × V) := [("start", a), ("driving", b), ("had_rest_ahead", c), ("ended", d), ("rest_start", e), ("rest_stop", f)]
def dayF (d : Day) : List (Str × V) := day6 (.int d.from_) (.int d.driven) (.bl d.part) (.bl d.rest.isSome) (.int (restFrom d)) (.int (restTill d))
def DayAt (C : Addr) (H : Hp) (a : Addr) (d : Day) : Prop := ∃ dx, H a = some (.ins C dx (dayF d))
theorem dayF_start (d : Day) : (dayF d).lookup ("start" : Str) = some (.int d.from_) := lk0
theorem dayF_driving (d : Day) : (dayF d).lookup ("driving" : Str) = some (.int d.driven) := lk1 (by decide +kernel) lk0
theorem dayF_part (d : Day) : (dayF d).lookup ("had_rest_ahead" : Str) = some (.bl d.part) := lk1 (by decide +kernel) (lk1 (by decide +kernel) lk0)
theorem dayF_ended (d : Day) : (dayF d).lookup ("ended" : Str) = some (.bl d.rest.isSome) := lk1 (by decide +kernel) (lk1 (by decide +kernel) (lk1 (by decide +kernel) lk0))
theorem dayF_from (d : Day) : (dayF d).lookup ("rest_start" : Str) = some (.int (restFrom d)) := lk1 (by decide +kernel) (lk1 (by decide +kernel) (lk1 (by decide +kernel) (lk1 (by decide +kernel) lk0)))
theorem dayF_till (d : Day) : (dayF d).lookup ("rest_stop" : Str) = some (.int (restTill d)) := lk1 (by decide +kernel) (lk1 (by decide +kernel) (lk1 (by decide +kernel) (lk1 (by decide +kernel) (lk1 (by decide +kernel) lk0))))
theorem dayF_none {m : Str} (d : Day) (h1 : (m == ("start" : Str)) = false) (h2 : (m == ("driving" : Str)) = false) (h3 : (m == ("had_rest_ahead" : Str)) = false) (h4 : (m == ("ended" : Str)) = false) (h5 : (m == ("rest_start" : Str)) = false) (h6 : (m == ("rest_stop" : Str)) = false) : (dayF d).lookup m = none :=
  lk1 h1 (lk1 h2 (lk1 h3 (lk1 h4 (lk1 h5 (lk1 h6 rfl)))))
theorem dayF_m1 (d : Day) : (dayF d).lookup ("take_rest" : Str) = none := dayF_none d (by decide +kernel) (by decide +kernel) (by decide +kernel) (by decide +kernel) (by decide +kernel) (by decide +kernel)
theorem dayF_m2 (d : Day) : (dayF d).lookup ("counted_rest" : Str) = none := dayF_none d (by decide +kernel) (by decide +kernel) (by decide +kernel) (by decide +kernel) (by decide +kernel) (by decide +kernel)
theorem dayF_m3 (d : Day) : (dayF d).lookup ("rest_kind" : Str) = none := dayF_none d (by decide +kernel) (by decide +kernel) (by decide +kernel) (by decide +kernel) (by decide +kernel) (by decide +kernel)
theorem dayF_m4 (d : Day) : (dayF d).lookup ("ends_in_weekly_rest" : Str) = none := dayF_none d (by decide +kernel) (by decide +kernel) (by decide +kernel) (by decide +kernel) (by decide +kernel) (by decide +kernel)
theorem dayF_put_driving (d : Day) (n : Nat) : putF "driving" (.int (n : Int)) (dayF d) = dayF { d with driven := n } := put1 (by decide +kernel) put0
theorem dayF_put_part (d : Day) : putF "had_rest_ahead" (.bl true) (dayF d) = dayF { d with part := true } := put1 (by decide +kernel) (put1 (by decide +kernel) put0)
theorem put6_ended {a b c d e f v : V} : putF "ended" v (day6 a b c d e f) = day6 a b c v e f := put1 (by decide +kernel) (put1 (by decide +kernel) (put1 (by decide +kernel) put0))
theorem put6_from {a b c d e f v : V} : putF "rest_start" v (day6 a b c d e f) = day6 a b c d v f := put1 (by decide +kernel) (put1 (by decide +kernel) (put1 (by decide +kernel) (put1 (by decide +kernel) put0)))
theorem put6_till {a b c d e f v : V} : putF "rest_stop" v (day6 a b c d e f) = day6 a b c d e v := put1 (by decide +kernel) (put1 (by decide +kernel) (put1 (by decide +kernel) (put1 (by decide +kernel) (put1 (by decide +kernel) put0))))
theorem dayF_put_rest (d : Day) (s : Stretch) : putF "rest_stop" (.int (s.till : Int)) (putF "rest_start" (.int (s.from_ : Int)) (putF "ended" (.bl true) (dayF d))) = dayF { d with rest := some s } := by
  unfold dayF
  rw [put6_ended, put6_from, put6_till]
  rfl
theorem dayF_new (n : Nat) : putF "rest_stop" (.int 0) (putF "rest_start" (.int 0) (putF "ended" (.bl false) (putF "had_rest_ahead" (.bl false) (putF "driving" (.int 0) (putF "start" (.int (n : Int)) []))))) = dayF ⟨n, 0, false, none⟩ := by
  have e1 (a b : V) : putF "driving" b (putF "start" a []) = ([("start", a), ("driving", b)] : List (Str × V)) := put1 (by decide +kernel) rfl
  have e2 (a b c : V) : putF "had_rest_ahead" c ([("start", a), ("driving", b)] : List (Str × V)) = ([("start", a), ("driving", b), ("had_rest_ahead", c)] : List (Str × V)) := put1 (by decide +kernel) (put1 (by decide +kernel) rfl)
  have e3 (a b c d : V) : putF "ended" d ([("start", a), ("driving", b), ("had_rest_ahead", c)] : List (Str × V)) = ([("start", a), ("driving", b), ("had_rest_ahead", c), ("ended", d)] : List (Str × V)) :=
    put1 (by decide +kernel) (put1 (by decide +kernel) (put1 (by decide +kernel) rfl))
  have e4 (a b c d e : V) : putF "rest_start" e ([("start", a), ("driving", b), ("had_rest_ahead", c), ("ended", d)] : List (Str × V)) = ([("start", a), ("driving", b), ("had_rest_ahead", c), ("ended", d), ("rest_start", e)] : List (Str × V)) :=
    put1 (by decide +kernel) (put1 (by decide +kernel) (put1 (by decide +kernel) (put1 (by decide +kernel) rfl)))
  rw [e1, e2, e3, e4]
  exact put1 (by decide +kernel) (put1 (by decide +kernel) (put1 (by decide +kernel) (put1 (by decide +kernel) (put1 (by decide +kernel) rfl))))
theorem DayAt.but {C o a : Addr} {H H' : Hp} {r : Day} (h : DayAt C H a r) (n : a ≠ o) (b : But o H H') : DayAt C H' a r := by
  obtain ⟨dx, e⟩ := h
  exact ⟨dx, b _ _ e n⟩
theorem DayAt.same {C a : Addr} {H H' : Hp} {r : Day} (h : DayAt C H a r) (b : Same H H') : DayAt C H' a r := by
  obtain ⟨dx, e⟩ := h
  exact ⟨dx, b _ _ e⟩
theorem DayAt.ne {C : Addr} {H : Hp} {p o : Addr} {r : Day} {xs : List V} (h : DayAt C H p r) (ho : H o = some (.lst xs)) : p ≠ o := by
  obtain ⟨dx, e⟩ := h
  exact ne_of e ho (by intro z; cases z)
/-- a list of days at p -/
def DaysAt (C : Addr) (H : Hp) (p : Addr) (ds : List Day) : Prop := ∃ ps : List Addr, H p = some (.lst (ps.map V.ref)) ∧ Objs (DayAt C) H ps ds
section
variable {P : Program} {w : World} {K : PySem.W.Frag} {mg : Str → Option Value} {base : Heap} {CS CD CV : Addr}
def spDayInit (C : Addr) : Sp := fun vs H Q _ => ∃ (p dx : Addr) (n : Nat), vs = [.ref p, .int n] ∧ H p = some (.ins C dx []) ∧ ∀ H' : Hp, DayAt C H' p ⟨n, 0, false, none⟩ → But p H H' → Q .non H'
theorem ok_Day_init {f : Addr} {fd : FuncData} (F : Fun K "__init__" "Day.__init__" s_Day_init f fd) (T : Txt K mg CS CD CV) : FnOk P w K mg base CX0 1 f fd ["self", "start"] (spDayInit CD) := by
  refine F.ok sc_Day_init (fun vs H Q E h => ?_) (fun cdv A outer s H vs Q E hr h => ⟨_, (pss_cons (ps_fld (pv 0) (pv 1) rfl)
      (pss_cons (ps_fld (pv 0) pe_int rfl)
      (pss_cons (ps_fld (pv 0) pe_bl rfl)
      (pss_cons (ps_fld (pv 0) pe_bl rfl)
      (pss_cons (ps_fld (pv 0) pe_int rfl)
      (pss_one (ps_fld (pv 0) pe_int rfl))))))), ?_⟩)
  · obtain ⟨p, dx, n, rfl, _⟩ := h
    rfl
  · obtain ⟨p, dx, n, rfl, hp, k⟩ := h
    refine ⟨_, rfl, _, rfl, p, CD, dx, _, rfl, hp, T.cl_Day, T.n_Day_start, (by show 0 < 1000; decide), ?_⟩
    refine ⟨_, rfl, p, CD, dx, _, rfl, upd_same, T.cl_Day, T.n_Day_driving, (by show 1 < 1000; decide), ?_⟩
    refine ⟨_, rfl, p, CD, dx, _, rfl, upd_same, T.cl_Day, T.n_Day_had_rest_ahead, (by show 2 < 1000; decide), ?_⟩
    refine ⟨_, rfl, p, CD, dx, _, rfl, upd_same, T.cl_Day, T.n_Day_ended, (by show 3 < 1000; decide), ?_⟩
    refine ⟨_, rfl, p, CD, dx, _, rfl, upd_same, T.cl_Day, T.n_Day_rest_start, (by show 4 < 1000; decide), ?_⟩
    refine ⟨_, rfl, p, CD, dx, _, rfl, upd_same, T.cl_Day, T.n_Day_rest_stop, (by show 5 < 1000; decide), ?_⟩
    refine k _ ⟨dx, ?_⟩ (but_trans but_upd (but_trans but_upd (but_trans but_upd (but_trans but_upd (but_trans but_upd but_upd)))))
    rw [upd_same]
    exact congrArg (fun q => some (HO.ins CD dx q)) (dayF_new n)
def rested (d : Day) (s : Stretch) : Day := if Kg70.SHORT ≤ s.long then { d with rest := some s } else { d with part := d.part || decide (Kg70.PART ≤ s.long) }
def spTake (C : Addr) : Sp := fun vs H Q _ => ∃ (a : Addr) (d : Day) (st : Stretch), vs = [.ref a, .int st.from_, .int st.till] ∧ DayAt C H a d ∧ st.from_ ≤ st.till ∧ ∀ H' : Hp, DayAt C H' a (rested d st) → But a H H' → Q .non H'
theorem ok_Day_take_rest {f : Addr} {fd : FuncData} (F : Fun K "take_rest" "Day.take_rest" s_Day_take_rest f fd) (T : Txt K mg CS CD CV) : FnOk P w K mg base CX0 1 f fd ["self", "start", "stop"] (spTake CD) := by
  refine F.ok sc_Day_take_rest (fun vs H Q E h => ?_) (fun cdv A outer s H vs Q E hr h => ⟨_, (pss_one (ps_if (pt_cmpR op_ge (pe_op op_sub (pv 2) (pv 1)) (pe_k rfl T.c_DAY_REST) (nomark _)) (pss_cons (ps_fld (pv 0) pe_bl rfl)
      (pss_cons (ps_fld (pv 0) (pv 1) rfl)
      (pss_one (ps_fld (pv 0) (pv 2) rfl)))) (pss_one (ps_if (pt_cmpR op_ge (pe_op op_sub (pv 2) (pv 1)) (pe_k rfl T.c_REST_AHEAD) (nomark _)) (pss_one (ps_fld (pv 0) pe_bl rfl)) pss_nil)))), ?_⟩)
  · obtain ⟨a, d, st, rfl, _⟩ := h
    rfl
  · obtain ⟨a, d, st, rfl, ⟨dx, ha⟩, hse, k⟩ := h
    have hl : st.long = st.till - st.from_ := rfl
    unfold rested at k
    refine ⟨_, rfl, _, rfl, _, _, rfl, rfl, _, _, rfl, rfl, _, rfl, if_dec (fun c => ?_) (fun c => ?_)⟩
    · rw [if_pos (show Kg70.SHORT ≤ st.long by show 540 ≤ _; omega)] at k
      refine ⟨_, rfl, a, CD, dx, _, rfl, ha, T.cl_Day, T.n_Day_ended, (by show 6 < 1000; decide), ?_⟩
      refine ⟨_, rfl, _, rfl, a, CD, dx, _, rfl, upd_same, T.cl_Day, T.n_Day_rest_start, (by show 6 < 1000; decide), ?_⟩
      refine ⟨_, rfl, _, rfl, a, CD, dx, _, rfl, upd_same, T.cl_Day, T.n_Day_rest_stop, (by show 6 < 1000; decide), ?_⟩
      refine k _ ⟨dx, ?_⟩ (but_trans but_upd (but_trans but_upd but_upd))
      rw [upd_same]
      exact congrArg (fun q => some (HO.ins CD dx q)) (dayF_put_rest d st)
    · rw [if_neg (show ¬ Kg70.SHORT ≤ st.long by show ¬ 540 ≤ _; omega)] at k
      refine ⟨_, rfl, _, rfl, _, _, rfl, rfl, _, _, rfl, rfl, _, rfl, if_dec (fun c2 => ?_) (fun c2 => ?_)⟩
      · rw [decide_eq_true (show Kg70.PART ≤ st.long by show 180 ≤ _; omega), Bool.or_true] at k
        refine ⟨_, rfl, a, CD, dx, _, rfl, ha, T.cl_Day, T.n_Day_had_rest_ahead, (by show 6 < 1000; decide), ?_⟩
        refine k _ ⟨dx, ?_⟩ but_upd
        rw [upd_same]
        exact congrArg (fun q => some (HO.ins CD dx q)) (dayF_put_part d)
      · rw [decide_eq_false (show ¬ Kg70.PART ≤ st.long by show ¬ 180 ≤ _; omega), Bool.or_false] at k
        exact k _ ⟨dx, ha⟩ (but_refl a H)
def spCounted (C : Addr) : Sp := fun vs H Q _ => ∃ (a : Addr) (d : Day), vs = [.ref a] ∧ DayAt C H a d ∧ Q (.int (d.had : Nat)) H
theorem ok_Day_counted_rest {f : Addr} {fd : FuncData} (F : Fun K "counted_rest" "Day.counted_rest" s_Day_counted_rest f fd) (T : Txt K mg CS CD CV) : FnOk P w K mg base CX0 1 f fd ["self"] (spCounted CD) := by
  refine F.ok sc_Day_counted_rest (fun vs H Q E h => ?_) (fun cdv A outer s H vs Q E hr h => ⟨_, (pss_cons (ps_if (pt_not (pt_val (pe_fld (pv 0) rfl))) (pss_one (ps_ret pe_int)) pss_nil)
      (pss_one (ps_ret (pe_callB (call_max2 rfl) (by rfl) T.b_max (by decide +kernel) (pa_cons pe_int (pa_cons (pe_op op_sub (pe_callB (call_min2 rfl) (by rfl) T.b_min (by decide +kernel) (pa_cons (pe_fld (pv 0) rfl) (pa_cons (pe_op op_add (pe_fld (pv 0) rfl) (pe_k rfl T.c_DAY)) pa_nil))) (pe_fld (pv 0) rfl)) pa_nil)))))), ?_⟩)
  · obtain ⟨a, d, rfl, _⟩ := h
    rfl
  · obtain ⟨a, d, rfl, ⟨dx, ha⟩, k⟩ := h
    refine ⟨_, rfl, a, CD, dx, _, _, rfl, ha, T.cl_Day, T.n_Day_ended, dayF_ended d, _, rfl, ?_⟩
    unfold Kg70.Day.had at k
    cases hr : d.rest with
    | none =>
      rw [hr] at k
      exact if_true_of rfl k
    | some r =>
      rw [hr] at k
      have er : restFrom d = r.from_ := by unfold restFrom; rw [hr]
      have et : restTill d = r.till := by unfold restTill; rw [hr]
      refine if_false_of rfl ?_
      refine ⟨_, rfl, a, CD, dx, _, _, rfl, ha, T.cl_Day, T.n_Day_rest_stop, dayF_till d, _, rfl, a, CD, dx, _, _, rfl, ha, T.cl_Day, T.n_Day_start, dayF_start d, _, _, rfl, rfl, _, _, rfl, ?_⟩
      refine ⟨_, rfl, a, CD, dx, _, _, rfl, ha, T.cl_Day, T.n_Day_rest_start, dayF_from d, _, _, rfl, rfl, _, _, rfl, ?_⟩
      rw [er, et]
      have e : (if (if ((d.from_ : Int) + 1440 < (r.till : Int)) then (d.from_ : Int) + 1440 else (r.till : Int)) - (r.from_ : Int) > 0 then (if ((d.from_ : Int) + 1440 < (r.till : Int)) then (d.from_ : Int) + 1440 else (r.till : Int)) - (r.from_ : Int) else 0) = ((min r.till (d.from_ + Kg70.DAY) - r.from_ : Nat) : Int) := by
        show _ = ((min r.till (d.from_ + 1440) - r.from_ : Nat) : Int)
        repeat' split
        all_goals omega
      rw [← e] at k
      exact k
theorem kind_is (d : Day) (e : Nat) : d.kind e = if d.rest.isNone = true ∧ e ≤ d.from_ + 1440 then 3 else if d.had < 540 then 2 else if 660 ≤ d.had ∨ d.part = true then 0 else 1 := by
  unfold Kg70.Day.kind
  have hL : Kg70.LONG = 660 := rfl
  have hS : Kg70.SHORT = 540 := rfl
  by_cases c : d.rest.isNone = true ∧ e ≤ d.from_ + 1440
  · have h0 : d.had = 0 := by
      unfold Kg70.Day.had
      cases hr : d.rest with
      | none => rfl
      | some r => rw [hr] at c; exact absurd c.1 (by simp)
    have g1 : ¬ (Kg70.LONG ≤ d.had ∨ (Kg70.SHORT ≤ d.had ∧ d.part = true)) := fun q => q.elim (fun q => by omega) (fun q => by have := q.1; omega)
    have g2 : ¬ Kg70.SHORT ≤ d.had := by omega
    have g3 : d.rest.isNone = true ∧ e ≤ d.from_ + Kg70.DAY := c
    rw [if_neg g1, if_neg g2, if_pos g3, if_pos c]
  · have g3 : ¬ (d.rest.isNone = true ∧ e ≤ d.from_ + Kg70.DAY) := c
    rw [if_neg c]
    by_cases c1 : d.had < 540
    · have g1 : ¬ (Kg70.LONG ≤ d.had ∨ (Kg70.SHORT ≤ d.had ∧ d.part = true)) := fun q => q.elim (fun q => by omega) (fun q => by have := q.1; omega)
      have g2 : ¬ Kg70.SHORT ≤ d.had := by omega
      rw [if_pos c1, if_neg g1, if_neg g2, if_neg g3]
    · have g2 : Kg70.SHORT ≤ d.had := by omega
      rw [if_neg c1]
      by_cases c2 : 660 ≤ d.had ∨ d.part = true
      · have g1 : Kg70.LONG ≤ d.had ∨ (Kg70.SHORT ≤ d.had ∧ d.part = true) := c2.elim (fun q => .inl q) (fun q => .inr ⟨g2, q⟩)
        rw [if_pos c2, if_pos g1]
      · have g1 : ¬ (Kg70.LONG ≤ d.had ∨ (Kg70.SHORT ≤ d.had ∧ d.part = true)) := fun q => q.elim (fun q => c2 (.inl q)) (fun q => c2 (.inr q.2))
        rw [if_neg c2, if_neg g1, if_pos g2]
def spKind (C : Addr) : Sp := fun vs H Q _ => ∃ (a : Addr) (d : Day) (e : Nat), vs = [.ref a, .int e] ∧ DayAt C H a d ∧ Q (.int (d.kind e : Nat)) H
theorem ok_Day_rest_kind {f : Addr} {fd : FuncData} (F : Fun K "rest_kind" "Day.rest_kind" s_Day_rest_kind f fd) (T : Txt K mg CS CD CV) (D1 : Km P w K mg base CD 1 "counted_rest" ["self"] (spCounted CD)) :
    FnOk P w K mg base CX0 2 f fd ["self", "end"] (spKind CD) := by
  obtain ⟨f_Day_counted_rest, fd_Day_counted_rest, G_Day_counted_rest, m_Day_counted_rest, B_Day_counted_rest⟩ := D1
  refine F.ok sc_Day_rest_kind (fun vs H Q E h => ?_) (fun cdv A outer s H vs Q E hr h => ⟨_, (pss_cons (ps_if (PW.pt (pw_and (pt_not (pt_val (pe_fld (pv 0) rfl))) (pw_and1 (pt_cmpR op_le (pe_op op_sub (pv 1) (pe_fld (pv 0) rfl)) (pe_k rfl T.c_DAY) (nomark _))))) (pss_one (ps_ret (pe_k rfl T.c_UNDECIDED))) pss_nil)
      (pss_cons (ps_set (i := 2) sc_Day_rest_kind.nd rfl (Or.inl rfl) (pe_meth0 (pv 0) T.cl_Day m_Day_counted_rest G_Day_counted_rest (hr.mono (by decide)) B_Day_counted_rest .nil pass0))
      (pss_cons (ps_if (pt_cmpR op_lt (pv 2) (pe_k rfl T.c_DAY_REST) (nomark _)) (pss_one (ps_ret (pe_k rfl T.c_TOO_SHORT))) pss_nil)
      (pss_cons (ps_if (PW.pt (pw_or (pt_cmpR op_ge (pv 2) (pe_k rfl T.c_WHOLE_REST) (nomark _)) (pw_or1 (pt_val (pe_fld (pv 0) rfl))))) (pss_one (ps_ret (pe_k rfl T.c_WHOLE))) pss_nil)
      (pss_one (ps_ret (pe_k rfl T.c_SHORT))))))), ?_⟩)
  · obtain ⟨a, d, e, rfl, _⟩ := h
    rfl
  · obtain ⟨a, d, e, rfl, hd, k⟩ := h
    obtain ⟨dx, ha⟩ := id hd
    rw [kind_is] at k
    have rest : ¬ (d.rest.isNone = true ∧ e ≤ d.from_ + 1440) → ∀ D : Ends, D.rt = Q → tSeq (tAsg (tMeth CD "counted_rest" (spCounted CD) [] E0 (tVar 0) tNil) (gName 2))
        (tSeq (tIfS (tTest (tOp (rI0 fun i j => .bl (decide (i < j))) (tVar 2) (tC (.int 540)))) (tRet (tC (.int 2))) tNext)
        (tSeq (tIfS (tOr (tTest (tOp (rI0 fun i j => .bl (decide (j ≤ i))) (tVar 2) (tC (.int 660)))) (tB (tFld K (tVar 0) "had_rest_ahead"))) (tRet (tC (.int 0))) tNext)
        (tRet (tC (.int 1))))) D [some (.ref a), some (.int e), none] H := fun c D hD => by
      rw [if_neg c] at k
      rw [← hD] at k
      refine ⟨.ref a, rfl, a, dx, _, rfl, ha, dayF_m2 d, a, d, rfl, hd, ?_⟩
      refine ⟨_, rfl, _, _, rfl, rfl, _, rfl, if_dec (fun c1 => ?_) (fun c1 => ?_)⟩
      · rw [if_pos (by omega)] at k
        exact k
      · rw [if_neg (by omega)] at k
        refine ⟨_, rfl, _, _, rfl, rfl, _, rfl, if_dec (fun c2 => ?_) (fun c2 => ?_)⟩
        · rw [if_pos (.inl (by omega))] at k
          exact if_true_of rfl k
        · refine ⟨_, rfl, a, CD, dx, _, _, rfl, ha, T.cl_Day, T.n_Day_had_rest_ahead, dayF_part d, _, rfl, ?_⟩
          cases hp : d.part with
          | true =>
            rw [hp, if_pos (.inr rfl)] at k
            exact if_true_of rfl k
          | false =>
            rw [hp, if_neg (fun q => q.elim (fun q => c2 (by omega)) (fun q => by cases q))] at k
            exact if_false_of rfl k
    refine ⟨_, rfl, a, CD, dx, _, _, rfl, ha, T.cl_Day, T.n_Day_ended, dayF_ended d, _, rfl, ?_⟩
    cases hr : d.rest with
    | some r =>
      refine if_false_of rfl (if_false_of rfl ?_)
      exact rest (fun q => by rw [hr] at q; exact absurd q.1 (by simp)) _ rfl
    | none =>
      refine if_true_of rfl ?_
      refine ⟨_, rfl, _, rfl, a, CD, dx, _, _, rfl, ha, T.cl_Day, T.n_Day_start, dayF_start d, _, _, rfl, rfl, _, _, rfl, rfl, _, rfl, if_dec (fun c => ?_) (fun c => ?_)⟩
      · rw [if_pos ⟨by rw [hr]; rfl, by omega⟩] at k
        exact k
      · exact rest (fun q => c (by omega)) _ rfl
def spWeeklyDay (C : Addr) : Sp := fun vs H Q _ => ∃ (a : Addr) (d : Day), vs = [.ref a] ∧ DayAt C H a d ∧ (∀ r, d.rest = some r → r.from_ ≤ r.till) ∧ Q (.bl (isWeekly d)) H
theorem ok_Day_ends_in_weekly_rest {f : Addr} {fd : FuncData} (F : Fun K "ends_in_weekly_rest" "Day.ends_in_weekly_rest" s_Day_ends_in_weekly_rest f fd) (T : Txt K mg CS CD CV) :
    FnOk P w K mg base CX0 1 f fd ["self"] (spWeeklyDay CD) := by
  refine F.ok sc_Day_ends_in_weekly_rest (fun vs H Q E h => ?_) (fun cdv A outer s H vs Q E hr h => ⟨_, (pss_one (ps_ret (pe_cmpR op_ge (pe_op op_sub (pe_fld (pv 0) rfl) (pe_fld (pv 0) rfl)) (pe_k rfl T.c_WEEKLY_REST) (nomark _)))), ?_⟩)
  · obtain ⟨a, d, rfl, _⟩ := h
    rfl
  · obtain ⟨a, d, rfl, ⟨dx, ha⟩, hle, k⟩ := h
    refine ⟨_, rfl, a, CD, dx, _, _, rfl, ha, T.cl_Day, T.n_Day_rest_stop, dayF_till d, _, rfl, a, CD, dx, _, _, rfl, ha, T.cl_Day, T.n_Day_rest_start, dayF_from d, _, _, rfl, rfl, _, _, rfl, rfl, ?_⟩
    have e : decide ((1440 : Int) ≤ (restTill d : Int) - (restFrom d : Int)) = isWeekly d := by
      unfold isWeekly restTill restFrom
      cases hr : d.rest with
      | none => rfl
      | some r =>
        have := hle r hr
        refine decide_eq_decide.mpr ?_
        show _ ↔ 1440 ≤ r.till - r.from_
        dsimp only
        omega
    rw [← e] at k
    exact k
end
end Dh

end
section
set_option Elab.async false
set_option maxRecDepth 100000
set_option maxHeartbeats 4000000
namespace Dh
open PySem PySem.Spec PyProof.Rows L2
open Kg70 (Stretch Told line total Broken Day Debt sixDays twoShort inWeek days)
section
variable {P : Program} {w : World} {K : PySem.W.Frag} {mg : Str → Option Value} {base : Heap} {CS CD CV : Addr}
def spDays (K : PySem.W.Frag) (C : Addr) : Sp := fun vs H Q _ => ∃ (a : Addr) (l : List Stretch), vs = [.ref a] ∧ RowsR K H a (l.map sr) ∧ l.length ≤ 1000 ∧ Line 0 none l ∧
  ∀ H' p, Same H H' → H p = none → DaysAt C H' p (days none l) → Q (.ref p) H'
/-- how the loop of days_of stands behind some stretches: no day yet, or a last one at x that is open or ended -/
inductive Stands (C : Addr) (l : List Stretch) (i : Nat) (H0 H' : Hp) (o : Addr) : V → Prop
  | none : H' o = some (.lst []) → days none l = days none (l.drop i) → Stands C l i H0 H' o .non
  | last (x : Addr) (qs : List Addr) (ds : List Day) (d : Day) : H' o = some (.lst (qs.map V.ref ++ [V.ref x])) → Objs (DayAt C) H' qs ds → DayAt C H' x d → x ∉ qs → H0 x = .none → ds.length + 1 ≤ i →
      ((d.rest = .none ∧ days .none l = ds ++ days (some d) (l.drop i)) ∨ (d.rest.isSome = true ∧ days .none l = ds ++ d :: days .none (l.drop i) ∧ ∀ y, l[i]? = some y → y.kind ≠ 0)) → Stands C l i H0 H' o (.ref x)
theorem rested_cons (d : Day) (s : Stretch) (l : List Stretch) (h : s.kind = 0) : days (some d) (s :: l) = if Kg70.SHORT ≤ s.long then rested d s :: days none l else days (some (rested d s)) l := by
  rw [days_some, if_pos h]
  unfold rested
  split <;> rfl
/-- if kind == DRIVING: day.driving += stop - start -/
theorem tail_driving {D : Ends} {H : Hp} {a x o : Addr} {d : Day} {y : Stretch} (T : Txt K mg CS CD CV) (hX : DayAt CD H x d) (hle : y.from_ ≤ y.till)
    (k : ∀ H', DayAt CD H' x { d with driven := d.driven + (if y.kind = 1 then y.long else 0) } → But x H H' → D.nx [some (.ref a), some (.ref o), some (.ref x), some (.int y.kind), some (.int y.from_), some (.int y.till)] H') :
    tIfS (tTest (tOp rEq (tVar 3) (tC (.int 1)))) (sFldAug K (tVar 2) (tOp (rI0 fun i j => .int (i - j)) (tVar 5) (tVar 4)) L2.rAdd "driving") tNext D
      [some (.ref a), some (.ref o), some (.ref x), some (.int y.kind), some (.int y.from_), some (.int y.till)] H := by
  obtain ⟨dx, hx⟩ := id hX
  refine ⟨_, rfl, rfl, _, rfl, if_dec (fun c => ?_) (fun c => ?_)⟩
  · have c' : y.kind = 1 := by have := int_eq.mp c; omega
    rw [if_pos c'] at k
    refine ⟨_, rfl, x, CD, dx, _, _, rfl, hx, T.cl_Day, T.n_Day_driving, dayF_driving d, _, rfl, _, rfl, _, _, rfl, rfl, _, _, rfl, rfl, dx, _, hx, (by show 6 < 1000; decide), ?_⟩
    have e1 : (d.driven : Int) + ((y.till : Int) - (y.from_ : Int)) = ((d.driven + y.long : Nat) : Int) := by
      show _ = ((d.driven + (y.till - y.from_) : Nat) : Int)
      omega
    rw [e1, dayF_put_driving]
    exact k _ ⟨dx, upd_same⟩ but_upd
  · have c' : ¬ y.kind = 1 := fun q => c (int_eq.mpr (by omega))
    rw [if_neg c'] at k
    exact k _ hX (but_refl x H)
theorem ok_days_of {f : Addr} {fd : FuncData} (F : Fun K "days_of" "days_of" s_days_of f fd) (T : Txt K mg CS CD CV) (D1 : Ki P w K mg base CD 1 ["self", "start"] (spDayInit CD))
    (D2 : Km P w K mg base CD 1 "take_rest" ["self", "start", "stop"] (spTake CD)) : FnOk P w K mg base CX0 3 f fd ["stretches"] (spDays K CD) := by
  obtain ⟨f_Day_init, fd_Day_init, G_Day_init, M_Day, B_Day_init⟩ := D1
  obtain ⟨f_Day_take_rest, fd_Day_take_rest, G_Day_take_rest, m_Day_take_rest, B_Day_take_rest⟩ := D2
  refine F.ok sc_days_of (fun vs H Q E h => ?_) (fun cdv A outer s H vs Q E hr h => ⟨_, (pss_cons (ps_set (i := 1) sc_days_of.nd rfl (Or.inl rfl) (pe_lst pa_nil))
      (pss_cons (ps_set (i := 2) sc_days_of.nd rfl (Or.inl rfl) pe_non)
      (pss_cons (ps_for PassesOwn.never rfl (pi_list (pv 0)) (pg_tup rfl (pgs_cons (pg_name (i := 3) sc_days_of.nd rfl (Or.inl rfl)) (pgs_cons (pg_name (i := 4) sc_days_of.nd rfl (Or.inl rfl)) (pgs_cons (pg_name (i := 5) sc_days_of.nd rfl (Or.inl rfl)) pgs_nil)))) (pss_one (ps_if (pt_cmpR op_eq (pv 3) (pe_k rfl T.c_REST) (nomark _)) (pss_one (ps_if (pt_cmpR op_notN (pv 2) pe_non (nomark _)) (pss_one (ps_expr (pe_meth (pv 2) T.cl_Day m_Day_take_rest G_Day_take_rest (hr.mono (by decide)) B_Day_take_rest .nil pass0 (pa_cons (pv 4) (pa_cons (pv 5) pa_nil))))) pss_nil)) (pss_cons (ps_if (PW.pt (pw_or (pt_cmpR op_isN (pv 2) pe_non (nomark _)) (pw_or1 (pt_val (pe_fld (pv 2) rfl))))) (pss_cons (ps_set (i := 2) sc_days_of.nd rfl (Or.inl rfl) (pe_make M_Day G_Day_init (hr.mono (by decide)) rfl T.g_Day B_Day_init .nil pass0 (pa_cons (pv 4) pa_nil)))
      (pss_one (ps_expr (pe_bm PySem.F.plainAttrs_list PySem.F.slot_list_append PySem.F.type_list_append mt_append (pv 1) (pa_cons (pv 2) pa_nil))))) pss_nil)
      (pss_one (ps_if (pt_cmpR op_eq (pv 3) (pe_k rfl T.c_DRIVING) (nomark _)) (pss_one (ps_fldaug (pv 2) (pe_op op_sub (pv 5) (pv 4)) in_add)) pss_nil))))))
      (pss_one (ps_ret (pv 1)))))), ?_⟩)
  · obtain ⟨a, l, rfl, _⟩ := h
    rfl
  · obtain ⟨a, l, rfl, ⟨ps, hS, hT⟩, hlen, hLn, k⟩ := h
    refine ⟨Nat.zero_le _, fun o no => ?_⟩
    have s0 : Same H (upd H o (.lst [])) := same_next (Same.refl H) no
    refine ⟨_, rfl, a, rfl, ⟨_, s0.seq hS⟩, for_list (K := K) (a := a) (xs := ps.map V.ref) (fun i σ H' => ∃ (v : V) (v3 v4 v5 : Option V), σ = [some (.ref a), some (.ref o), some v, v3, v4, v5] ∧ Same H H' ∧ Stands CD l i H H' o v)
      ⟨_, _, _, _, rfl, s0, .none upd_same rfl⟩ (fun i σ H' _ ⟨_, _, _, _, _, b, _⟩ => b.seq hS) ?_ ?_⟩
    · rintro i v σ H' hi ⟨v, v3, v4, v5, rfl, sm, st⟩
      obtain ⟨p, y, rfl, hy, hp⟩ := hT.item hi
      have hyi := lt_of_get hy
      have hp' : H' p = some (.tup (ivs (sr y))) := sm _ _ hp
      have hyl := till_le l 0 none hLn y (List.mem_of_getElem? hy)
      have hy0 : y.kind = 0 → ∀ z, l[i + 1]? = some z → z.kind ≠ 0 := fun q z hz e => line_next l 0 none i y z hLn hy hz (by rw [q, e])
      have hdr := drop_one hy
      refine ⟨p, _, rfl, SqT.of hp', rfl, _, _, rfl, _, _, rfl, _, _, rfl, rfl, ?_⟩
      refine ⟨_, rfl, rfl, _, rfl, if_dec (fun c => ?_) (fun c => ?_)⟩
      · -- a rest
        have c' : y.kind = 0 := by have := int_eq.mp c; omega
        cases st with
        | none ho hD =>
          rw [hdr, days_none, if_pos c'] at hD
          refine ⟨_, rfl, rfl, _, rfl, if_false_of rfl ?_⟩
          exact ⟨_, _, _, _, rfl, sm, .none ho hD⟩
        | last x qs ds d ho hO hX hxq hx0 hdl hD =>
          refine ⟨_, rfl, rfl, _, rfl, if_true_of rfl ?_⟩
          rcases hD with ⟨hr, hD⟩ | ⟨_, _, hn⟩
          · obtain ⟨dj, hj⟩ := id hX
            rw [hdr, rested_cons d y _ c'] at hD
            refine ⟨.ref x, rfl, x, dj, _, rfl, hj, dayF_m1 d, _, rfl, _, rfl, x, d, y, rfl, hX, by omega, fun H2 hX2 b2 => ?_⟩
            have hxo : x ≠ o := hX.ne ho
            refine ⟨_, _, _, _, rfl, but_same sm hx0 b2, .last x qs ds (rested d y) (b2 _ _ ho hxo.symm) (hO.sub fun q z m h => h.but (fun (e : q = x) => hxq (e ▸ m)) b2) hX2 hxq hx0 (by omega) ?_⟩
            by_cases g : Kg70.SHORT ≤ y.long
            · rw [if_pos g] at hD
              refine .inr ⟨?_, hD, hy0 c'⟩
              unfold rested
              rw [if_pos g]
              rfl
            · rw [if_neg g] at hD
              refine .inl ⟨?_, hD⟩
              unfold rested
              rw [if_neg g]
              exact hr
          · exact absurd c' (hn y hy)
      · -- work
        have c' : ¬ y.kind = 0 := fun q => c (int_eq.mpr (by omega))
        -- a new day, then its driving
        have new : ∀ (H2 : Hp) (qs : List Addr) (ds : List Day), Same H H2 → H2 o = some (.lst (qs.map V.ref)) → Objs (DayAt CD) H2 qs ds → ds.length ≤ i → days none l = ds ++ days (some ⟨y.from_, if y.kind = 1 then y.long else 0, false, none⟩) (l.drop (i + 1)) → ∀ (D : Ends) (u : V), (∀ (v : V) (v3 v4 v5 : Option V) (H3 : Hp), Same H H3 → Stands CD l (i + 1) H H3 o v → D.nx [some (.ref a), some (.ref o), some v, v3, v4, v5] H3) →
            tSeq (tAsg (tMake CD (spDayInit CD) [] E0 (tCons (tVar 4) tNil)) (gName 2)) (tDrop (tBM K "list" rAppend (tVar 1) (tCons (tVar 2) tNil))) { D with nx := tIfS (tTest (tOp rEq (tVar 3) (tC (.int 1)))) (sFldAug K (tVar 2) (tOp (rI0 fun i j => .int (i - j)) (tVar 5) (tVar 4)) L2.rAdd "driving") tNext D }
              [some (.ref a), some (.ref o), some u, some (.int y.kind), some (.int y.from_), some (.int y.till)] H2 := by
          intro H2 qs ds sm2 ho2 hO2 hdl2 hD2 D u fin
          refine ⟨_, rfl, ?_⟩
          intro x2 dx2 nx2 nd2 ne2
          refine ⟨x2, dx2, y.from_, rfl, upd_same, fun H3 J3 kp3 => ⟨rfl, ?_⟩⟩
          have s3 : Same H2 H3 := made_same nx2 nd2 kp3
          have ho3 : H3 o = some (.lst (qs.map V.ref)) := s3 _ _ ho2
          have hx2o : x2 ≠ o := J3.ne ho3
          have hlq := hO2.len
          refine ⟨_, rfl, .inl ⟨rfl, _, SqL.of ho3⟩, _, rfl, o, _, _, rfl, rfl, ho3, (by rw [List.length_map]; exact szl (by omega)), ?_⟩
          have J4 : DayAt CD (upd H3 o (.lst (qs.map V.ref ++ [.ref x2]))) x2 ⟨y.from_, 0, false, none⟩ := J3.but hx2o but_upd
          have hx2H : H x2 = none := same_back sm2 nx2
          have hxq2 : x2 ∉ qs := fun m => by
            obtain ⟨z, dz, hz⟩ := hO2.mem m
            rw [nx2] at hz
            cases hz
          refine tail_driving T J4 (by omega) fun H4 hX4 b4 => ?_
          refine fin _ _ _ _ H4 (but_same (same_new (sm2.trans s3) ?_) hx2H b4) (.last x2 qs ds _ (b4 _ _ upd_same hx2o.symm) ?_ hX4 hxq2 hx2H (by omega) (.inl ⟨rfl, ?_⟩))
          · cases q : H o with
            | none => rfl
            | some u =>
              rw [no] at q
              cases q
          · refine hO2.sub fun q z m h => ?_
            exact ((h.same s3).but (h.ne ho2) but_upd).but (fun (e : q = x2) => hxq2 (e ▸ m)) b4
          · rw [hD2, Nat.zero_add]
        cases st with
        | none ho hD =>
          rw [hdr, days_none, if_neg c'] at hD
          refine ⟨_, rfl, rfl, _, rfl, if_true_of rfl ?_⟩
          refine if_true_of rfl ?_
          exact new H' [] [] sm ho trivial (Nat.zero_le _) hD _ _ (fun v v3 v4 v5 H3 s3 st3 => ⟨_, _, _, _, rfl, s3, st3⟩)
        | last x qs ds d ho hO hX hxq hx0 hdl hD =>
          obtain ⟨dj, hj⟩ := id hX
          refine ⟨_, rfl, rfl, _, rfl, if_false_of rfl ?_⟩
          refine ⟨_, rfl, x, CD, dj, _, _, rfl, hj, T.cl_Day, T.n_Day_ended, dayF_ended d, _, rfl, ?_⟩
          rcases hD with ⟨hr, hD⟩ | ⟨hr, hD, _⟩
          · rw [hdr, days_some, if_neg c'] at hD
            rw [hr]
            refine if_false_of rfl ?_
            have hxo : x ≠ o := hX.ne ho
            refine tail_driving T hX (by omega) fun H4 hX4 b4 => ?_
            exact ⟨_, _, _, _, rfl, but_same sm hx0 b4, .last x qs ds _ (b4 _ _ ho hxo.symm) (hO.sub fun q z m h => h.but (fun (e : q = x) => hxq (e ▸ m)) b4) hX4 hxq hx0 (by omega) (.inl ⟨hr, hD⟩)⟩
          · rw [hdr, days_none, if_neg c'] at hD
            rw [hr]
            refine if_true_of rfl ?_
            exact new H' (qs ++ [x]) (ds ++ [d]) sm (by rw [ho, List.map_append]; rfl) (hO.snoc hX) (by simp; omega) (by rw [hD, List.append_assoc]; rfl) _ _ (fun v v3 v4 v5 H3 s3 st3 => ⟨_, _, _, _, rfl, s3, st3⟩)
    · rintro σ H' ⟨v, v3, v4, v5, rfl, sm, st⟩
      refine ⟨_, rfl, k _ _ sm no ?_⟩
      rw [List.length_map, hT.len, List.length_map] at st
      cases st with
      | none ho hD =>
        rw [List.drop_length, days_nil0] at hD
        rw [hD]
        exact ⟨[], ho, trivial⟩
      | last x qs ds d ho hO hX hxq hx0 hdl hD =>
        rw [List.drop_length, days_nil0, days_nil1] at hD
        have hD2 : days none l = ds ++ [d] := by
          rcases hD with ⟨_, hD⟩ | ⟨_, hD, _⟩
          · exact hD
          · exact hD
        rw [hD2]
        exact ⟨qs ++ [x], by rw [ho, List.map_append]; rfl, hO.snoc hX⟩
end
end Dh

end
section
set_option Elab.async false
set_option maxRecDepth 100000
set_option maxHeartbeats 4000000
namespace Dh
open PySem PySem.Spec PyProof.Rows L2
open Kg70 (Stretch Told line total Broken Day Debt sixDays twoShort inWeek days)
def DaysR (K : PySem.W.Frag) (C : Addr) (H : Hp) (p : Addr) (ds : List Day) : Prop := ∃ ps : List Addr, SqL K H p (ps.map V.ref) ∧ Objs (DayAt C) H ps ds
theorem DaysAt.read {K : PySem.W.Frag} {C : Addr} {H : Hp} {p : Addr} {ds : List Day} (h : DaysAt C H p ds) : DaysR K C H p ds := by
  obtain ⟨ps, e, o⟩ := h
  exact ⟨ps, SqL.of e, o⟩
theorem DaysR.same {K : PySem.W.Frag} {C : Addr} {H H' : Hp} {p : Addr} {ds : List Day} (h : DaysR K C H p ds) (s : Same H H') : DaysR K C H' p ds := by
  obtain ⟨ps, e, o⟩ := h
  exact ⟨ps, s.seq e, o.sub fun q z _ x => x.same s⟩
theorem RowsW.but {H H' : Hp} {o x : Addr} {l : List (List Int)} (h : RowsW H o l) (n : o ≠ x) (nt : ∀ p xs, H p = some (.tup xs) → p ≠ x) (b : But x H H') : RowsW H' o l := by
  obtain ⟨ps, e, t⟩ := h
  exact ⟨ps, b _ _ e n, t.sub fun p xs q => b _ _ q (nt p xs q)⟩
/-- the dict of long days by weeks, the spec's pair -/
structure WeekD (kvs : List (Key × V)) (w n : Nat) : Prop where
  here : (valV kvs (Sum.inl (w : Int) : Key)).getD (.int 0) = .int (n : Int)
  later : ∀ k : Nat, w < k → valV kvs (Sum.inl (k : Int) : Key) = none
theorem WeekD.at {kvs : List (Key × V)} {w n k : Nat} (h : WeekD kvs w n) (g : w ≤ k) : (valV kvs (Sum.inl (k : Int) : Key)).getD (.int 0) = .int ((if k = w then n else 0 : Nat) : Int) := by
  by_cases e : k = w
  · subst e
    rw [if_pos rfl]
    exact h.here
  · rw [if_neg e, h.later k (by omega)]
    rfl
theorem WeekD.put {kvs : List (Key × V)} {w n k m : Nat} (h : WeekD kvs w n) (g : w ≤ k) : WeekD (putK kvs (Sum.inl (k : Int) : Key) (.int (m : Int))) k m := by
  refine ⟨?_, fun j hj => ?_⟩
  · rw [valV_put, if_pos rfl]
    rfl
  · rw [valV_put, if_neg (fun q => by have := Sum.inl.inj q; omega)]
    exact h.later j (by omega)
theorem WeekD.move {kvs : List (Key × V)} {w n k : Nat} (h : WeekD kvs w n) (g : w ≤ k) : WeekD kvs k (if k = w then n else 0) := ⟨h.at g, fun j hj => h.later j (by omega)⟩
theorem gv_dget2 {td ty tx : TE} {σ : L2.St} {H : Hp} {ld : Addr} {kvs : List (Key × V)} {k : Int} {z v : V} (hd : Gv td σ H (.ref ld)) (hy : Gv ty σ H (.int k)) (hx : Gv tx σ H z) (hl : H ld = some (.dK kvs)) (hv : (valV kvs (Sum.inl k : Key)).getD z = v) (Q : VK) (q : Q v H) : tDGet2 td ty tx σ H Q :=
  hd _ ⟨ld, rfl, .inl ⟨kvs, Rd.of hl⟩, hy _ (hx _ ⟨_, DGet.k (k := Sum.inl k) hl, by rw [hv]; exact q⟩)⟩
theorem s_dput {td ty tv : TE} {D : Ends} {u : TS} {σ : L2.St} {H : Hp} {ld : Addr} {kvs : List (Key × V)} {k : Int} {v : V} (hv : Gv tv σ H v) (hd : Gv td σ H (.ref ld)) (hy : Gv ty σ H (.int k)) (hl : H ld = some (.dK kvs)) (hn : kvs.length ≤ 1000)
    (q : u D σ (upd H ld (.dK (putK kvs (Sum.inl k : Key) v)))) : tSeq (sDPut td ty tv) u D σ H :=
  hv _ (hd _ (hy _ ⟨ld, _, rfl, DPut.k (k := Sum.inl k) hl (small1000 hn), q⟩))
theorem s_augN {i : Nat} {te : TE} {D : Ends} {u : TS} {σ : L2.St} {H : Hp} {x y : Nat} (hi : σ[i]? = some (some (.int (x : Int)))) (he : Gv te σ H (.int (y : Int))) (k : u D (σ.set i (some (.int ((x + y : Nat) : Int)))) H) : tSeq (tAug i te (ipI fun i j => i + j)) u D σ H :=
  ⟨_, hi, he _ ⟨_, _, rfl, rfl, by
    show u D (σ.set i (some (.int ((x : Int) + (y : Int))))) H
    rw [← Int.natCast_add]
    exact k⟩⟩
theorem two_cons (w n : Nat) (d : Day) (l : List Day) : two (w, n) (d :: l) = two1 (if d.from_ / Kg70.WEEK = w then n else 0) d ++ two (d.from_ / Kg70.WEEK, (if d.from_ / Kg70.WEEK = w then n else 0) + if isLong d = true then 1 else 0) l := by rw [two]
section
variable {P : Program} {w : World} {K : PySem.W.Frag} {mg : Str → Option Value} {base : Heap} {CS CD CV : Addr}
def spTwo (K : PySem.W.Frag) (C : Addr) : Sp := fun vs H Q _ => ∃ (a : Addr) (ds : List Day), vs = [.ref a] ∧ DaysR K C H a ds ∧ ds.length ≤ 1000 ∧ Begins 0 ds ∧ (∀ d ∈ ds, d.from_ ≤ 100000000) ∧ ∀ H' p, NewRows H H' p ((two (0, 0) ds).map br) → Q (.ref p) H'
theorem ok_overdriven_days {f : Addr} {fd : FuncData} (F : Fun K "overdriven_days" "overdriven_days" s_overdriven_days f fd) (T : Txt K mg CS CD CV) : FnOk P w K mg base CX0 1 f fd ["days"] (spTwo K CD) := by
  refine F.ok sc_overdriven_days (fun vs H Q E h => ?_) (fun cdv A outer s H vs Q E hr h => ?_)
  · obtain ⟨a, ds, rfl, _⟩ := h
    rfl
  · have hu := hu_of hr
    refine ⟨_, (pss_cons (ps_set (i := 1) sc_overdriven_days.nd rfl (Or.inl rfl) (pe_lst pa_nil))
      (pss_cons (ps_set (i := 2) sc_overdriven_days.nd rfl (Or.inl rfl) pe_dnewK)
      (pss_cons (ps_for PassesOwn.never rfl (pi_list (pv 0)) (pg_name (i := 3) sc_overdriven_days.nd rfl (Or.inl rfl)) (pss_one (ps_if (pt_cmpR op_gt (pe_fld (pv 3) rfl) (pe_k rfl T.c_USUAL_DRIVING) (nomark _)) (pss_cons (ps_set (i := 4) sc_overdriven_days.nd rfl (Or.inl rfl) (pe_op op_fdiv (pe_fld (pv 3) rfl) (pe_k rfl T.c_WEEK_weeks)))
      (pss_cons (ps_dput hu (pv 2) (pv 4) (pe_op op_add (pe_dget2 hu (pv 2) (pv 4) pe_int ⟨rfl, rfl, rfl, rfl⟩) pe_int) rfl)
      (pss_one (ps_if (pt_cmpR op_gt (pe_fld (pv 3) rfl) (pe_k rfl T.c_MOST_DRIVING_daily) (nomark _)) (pss_one (ps_expr (pe_bm PySem.F.plainAttrs_list PySem.F.slot_list_append PySem.F.type_list_append mt_append (pv 1) (pa_cons (pe_tup (pa_cons (pe_fld (pv 3) rfl) (pa_cons pe_int (pa_cons (pe_op op_sub (pe_fld (pv 3) rfl) (pe_k rfl T.c_MOST_DRIVING_daily)) pa_nil)))) pa_nil)))) (pss_one (ps_if (pt_cmpR op_gt (pe_dget hu (pv 2) (pv 4) (fun _ _ => rfl)) (pe_k rfl T.c_MOST_LONG_DAYS) (nomark _)) (pss_one (ps_expr (pe_bm PySem.F.plainAttrs_list PySem.F.slot_list_append PySem.F.type_list_append mt_append (pv 1) (pa_cons (pe_tup (pa_cons (pe_fld (pv 3) rfl) (pa_cons pe_int (pa_cons (pe_op op_sub (pe_fld (pv 3) rfl) (pe_k rfl T.c_USUAL_DRIVING)) pa_nil)))) pa_nil)))) pss_nil)))))) pss_nil)))
      (pss_one (ps_ret (pv 1)))))), ?_⟩
    obtain ⟨a, ds, rfl, ⟨ps, hS, hO⟩, hlen, hbg, hle, k⟩ := h
    refine ⟨Nat.zero_le _, fun o no => ?_⟩
    intro ld nld
    have hW : Kg70.WEEK = 10080 := rfl
    have hlo : ld ≠ o := fun q => by rw [q, upd_same] at nld; cases nld
    have s0 : Same H (upd (upd H o (.lst [])) ld (.dK [])) := same_next (same_next (Same.refl H) no) nld
    have nldH : H ld = none := same_back (same_next (Same.refl H) no) nld
    refine ⟨_, rfl, a, rfl, ⟨_, s0.seq hS⟩, for_list (K := K) (a := a) (xs := ps.map V.ref) (fun i σ H' => ∃ (v3 v4 : Option V) (kvs : List (Key × V)) (w n t : Nat) (done : List Broken), σ = [some (.ref a), some (.ref o), some (.ref ld), v3, v4] ∧ Same H H' ∧ H' ld = some (.dK kvs) ∧ RowsW H' o (done.map br) ∧ WeekD kvs w n ∧ kvs.length ≤ i ∧ w = t / Kg70.WEEK ∧ Begins t (ds.drop i) ∧ two (0, 0) ds = done ++ two (w, n) (ds.drop i) ∧ done.length ≤ i)
      ⟨_, _, [], 0, 0, 0, [], rfl, s0, upd_same, ⟨[], (upd_ne hlo.symm).trans upd_same, trivial⟩, ⟨rfl, fun _ _ => rfl⟩, Nat.le_refl _, rfl, hbg, rfl, Nat.le_refl _⟩ (fun i σ H' _ ⟨_, _, _, _, _, _, _, _, b, _⟩ => b.seq hS) ?_ ?_⟩
    · rintro i v σ H' hi ⟨v3, v4, kvs, wk, n, t, done, rfl, sm, hld, hR, hWk, hkl, hwt, hB, hD, hdl⟩
      obtain ⟨p, d, rfl, hp, hd, hX⟩ := hO.item hi
      have hdi := lt_of_get hd
      obtain ⟨dj, hj⟩ := hX.same sm
      have hdle := hle d (List.mem_of_getElem? hd)
      rw [drop_one hd] at hB hD
      rw [two_cons] at hD
      have hB1 : t ≤ d.from_ := hB.1
      have hB2 : Begins d.from_ (ds.drop (i + 1)) := hB.2
      have hwk : wk ≤ d.from_ / Kg70.WEEK := by rw [hwt]; exact Nat.div_le_div_right hB1
      refine ⟨.ref p, rfl, p, CD, dj, _, _, rfl, hj, T.cl_Day, T.n_Day_driving, dayF_driving d, _, _, rfl, rfl, _, rfl, if_dec (fun c => ?_) (fun c => ?_)⟩
      · have hlg : isLong d = true := decide_eq_true (by omega)
        rw [if_pos hlg] at hD
        generalize hm : (if d.from_ / Kg70.WEEK = wk then n else 0) = m at hD
        have hget := hWk.at hwk
        rw [hm] at hget
        refine s_set (i := 4) (v := .int ((d.from_ / Kg70.WEEK : Nat) : Int)) (gvN_div (fun Q q => ⟨.ref p, rfl, p, CD, dj, _, _, rfl, hj, T.cl_Day, T.n_Day_start, dayF_start d, q⟩) (gvN_c (n := 10080)) (by omega)) ?_
        refine s_dput (k := ((d.from_ / Kg70.WEEK : Nat) : Int)) (v := .int ((m + 1 : Nat) : Int)) (gvN_add (gv_dget2 gv_var gv_var gv_c hld hget) (gvN_c (n := 1))) gv_var gv_var hld (by omega) ?_
        have hp2 : ∀ x : HO, (upd H' ld x) p = some (.ins CD dj (dayF d)) := fun x => (upd_ne (fun q => by rw [q, hld] at hj; cases hj)).trans hj
        have hRd : ∀ x : HO, RowsW (upd H' ld x) o (done.map br) := fun x => hR.but hlo.symm (fun p xs q e => by rw [e, hld] at q; cases q) but_upd
        have hlo2 : ∀ {H3 : Hp} {x : HO} {u : HO}, But o (upd H' ld x) H3 → u = x → H3 ld = some u := fun b e => by rw [e]; exact b _ _ upd_same hlo
        refine ⟨.ref p, rfl, p, CD, dj, _, _, rfl, hp2 _, T.cl_Day, T.n_Day_driving, dayF_driving d, _, _, rfl, rfl, _, rfl, if_dec (fun c2 => ?_) (fun c2 => ?_)⟩
        · have et : two1 m d = [⟨2, d.from_, d.driven - 600⟩] := by unfold two1; rw [if_pos (by omega)]
          rw [et] at hD
          refine app3 (x := (d.from_ : Int)) (y := 2) (z := ((d.driven - 600 : Nat) : Int)) rfl (hRd _) (by rw [List.length_map]; omega) (fun Q q => ⟨.ref p, rfl, p, CD, dj, _, _, rfl, hp2 _, T.cl_Day, T.n_Day_start, dayF_start d, q⟩) gv_c
            (gvN_sub (fun Q q => ⟨.ref p, rfl, p, CD, dj, _, _, rfl, hp2 _, T.cl_Day, T.n_Day_driving, dayF_driving d, q⟩) (gvN_c (n := 600)) (by omega)) fun H3 hR3 b3 => ?_
          refine ⟨_, _, _, _, m + 1, d.from_, done ++ [⟨2, d.from_, d.driven - 600⟩], rfl, but_same (same_new sm nldH) no b3, hlo2 b3 rfl, ?_, hWk.put hwk, ?_, rfl, hB2, by rw [hD, List.append_assoc], by simp; omega⟩
          · rw [List.map_append]
            exact hR3
          · have := length_putK kvs (Sum.inl ((d.from_ / Kg70.WEEK : Nat) : Int) : Key) (.int ((m + 1 : Nat) : Int))
            omega
        · refine ⟨_, rfl, _, rfl, ld, (.int ((m + 1 : Nat) : Int)), rfl, ?_, _, _, rfl, rfl, _, rfl, ?_⟩
          · have h1 : (upd H' ld (.dK (putK kvs (Sum.inl ((d.from_ / Kg70.WEEK : Nat) : Int) : Key) (.int ((m + 1 : Nat) : Int))))) ld = some (.dK (putK kvs (Sum.inl ((d.from_ / Kg70.WEEK : Nat) : Int) : Key) (.int ((m + 1 : Nat) : Int)))) := upd_same
            have h2 := DGet.k (k := Sum.inl ((d.from_ / Kg70.WEEK : Nat) : Int)) h1
            rw [valV_put, if_pos rfl] at h2
            exact h2
          refine if_dec (fun c3 => ?_) (fun c3 => ?_)
          · have et : two1 m d = [⟨2, d.from_, d.driven - 540⟩] := by
              unfold two1
              rw [if_neg (by omega), if_pos ⟨hlg, by omega⟩]
            rw [et] at hD
            refine app3 (x := (d.from_ : Int)) (y := 2) (z := ((d.driven - 540 : Nat) : Int)) rfl (hRd _) (by rw [List.length_map]; omega) (fun Q q => ⟨.ref p, rfl, p, CD, dj, _, _, rfl, hp2 _, T.cl_Day, T.n_Day_start, dayF_start d, q⟩) gv_c
              (gvN_sub (fun Q q => ⟨.ref p, rfl, p, CD, dj, _, _, rfl, hp2 _, T.cl_Day, T.n_Day_driving, dayF_driving d, q⟩) (gvN_c (n := 540)) (by omega)) fun H3 hR3 b3 => ?_
            refine ⟨_, _, _, _, m + 1, d.from_, done ++ [⟨2, d.from_, d.driven - 540⟩], rfl, but_same (same_new sm nldH) no b3, hlo2 b3 rfl, ?_, hWk.put hwk, ?_, rfl, hB2, by rw [hD, List.append_assoc], by simp; omega⟩
            · rw [List.map_append]
              exact hR3
            · have := length_putK kvs (Sum.inl ((d.from_ / Kg70.WEEK : Nat) : Int) : Key) (.int ((m + 1 : Nat) : Int))
              omega
          · have et : two1 m d = [] := by
              unfold two1
              rw [if_neg (by omega), if_neg (fun q => c3 (by omega))]
            rw [et, List.nil_append] at hD
            refine ⟨_, _, _, _, m + 1, d.from_, done, rfl, same_new sm nldH, upd_same, hRd _, hWk.put hwk, ?_, rfl, hB2, hD, by omega⟩
            have := length_putK kvs (Sum.inl ((d.from_ / Kg70.WEEK : Nat) : Int) : Key) (.int ((m + 1 : Nat) : Int))
            omega
      · have hlg : isLong d = false := decide_eq_false (by omega)
        have et : ∀ m, two1 m d = [] := fun m => by
          unfold two1
          rw [if_neg (by omega), hlg, if_neg (fun q => by cases q.1)]
        rw [et, hlg, if_neg Bool.false_ne_true, Nat.add_zero, List.nil_append] at hD
        exact ⟨_, _, kvs, _, _, d.from_, done, rfl, sm, hld, hR, hWk.move hwk, by omega, rfl, hB2, hD, by omega⟩
    · rintro σ H' ⟨v3, v4, kvs, wk, n, t, done, rfl, sm, hld, hR, hWk, hkl, hwt, hB, hD, hdl⟩
      rw [List.length_map, hO.len, List.drop_length] at hD
      have : two (wk, n) ([] : List Day) = [] := by rw [two]
      rw [this, List.append_nil] at hD
      refine ⟨_, rfl, k _ _ ⟨sm, no, ?_⟩⟩
      rw [hD]
      exact hR
def spPerDay (K : PySem.W.Frag) (C : Addr) (g : Nat → List Day → List Broken) : Sp := fun vs H Q _ => ∃ (a : Addr) (ds : List Day) (e : Nat), vs = [.ref a, .int e] ∧ DaysR K C H a ds ∧ ds.length ≤ 1000 ∧ (∀ d ∈ ds, DayOk e d) ∧ ∀ H' p, NewRows H H' p ((g e ds).map br) → Q (.ref p) H'
theorem ok_too_short_rests {f : Addr} {fd : FuncData} (F : Fun K "too_short_rests" "too_short_rests" s_too_short_rests f fd) (T : Txt K mg CS CD CV) (D1 : Km P w K mg base CD 1 "counted_rest" ["self"] (spCounted CD))
    (D2 : Km P w K mg base CD 2 "rest_kind" ["self", "end"] (spKind CD)) : FnOk P w K mg base CX0 3 f fd ["days", "end"] (spPerDay K CD three) := by
  obtain ⟨f_Day_counted_rest, fd_Day_counted_rest, G_Day_counted_rest, m_Day_counted_rest, B_Day_counted_rest⟩ := D1
  obtain ⟨f_Day_rest_kind, fd_Day_rest_kind, G_Day_rest_kind, m_Day_rest_kind, B_Day_rest_kind⟩ := D2
  refine F.ok sc_too_short_rests (fun vs H Q E h => ?_) (fun cdv A outer s H vs Q E hr h => ⟨_, (pss_cons (ps_set (i := 2) sc_too_short_rests.nd rfl (Or.inl rfl) (pe_lst pa_nil))
      (pss_cons (ps_for PassesOwn.never rfl (pi_list (pv 0)) (pg_name (i := 3) sc_too_short_rests.nd rfl (Or.inl rfl)) (pss_one (ps_if (pt_cmpR op_eq (pe_meth (pv 3) T.cl_Day m_Day_rest_kind G_Day_rest_kind (hr.mono (by decide)) B_Day_rest_kind .nil pass0 (pa_cons (pv 1) pa_nil)) (pe_k rfl T.c_TOO_SHORT) (nomark _)) (pss_one (ps_expr (pe_bm PySem.F.plainAttrs_list PySem.F.slot_list_append PySem.F.type_list_append mt_append (pv 2) (pa_cons (pe_tup (pa_cons (pe_op op_add (pe_fld (pv 3) rfl) (pe_k rfl T.c_DAY)) (pa_cons pe_int (pa_cons (pe_op op_sub (pe_k rfl T.c_DAY_REST) (pe_meth0 (pv 3) T.cl_Day m_Day_counted_rest G_Day_counted_rest (hr.mono (by decide)) B_Day_counted_rest .nil pass0)) pa_nil)))) pa_nil)))) pss_nil)))
      (pss_one (ps_ret (pv 2))))), ?_⟩)
  · obtain ⟨a, ds, e, rfl, _⟩ := h
    rfl
  · obtain ⟨a, ds, e, rfl, ⟨ps, hS, hO⟩, hlen, hok, k⟩ := h
    refine ⟨Nat.zero_le _, fun o no => ?_⟩
    have s0 : Same H (upd H o (.lst [])) := same_next (Same.refl H) no
    refine ⟨_, rfl, a, rfl, ⟨_, s0.seq hS⟩, for_list (K := K) (a := a) (xs := ps.map V.ref) (fun i σ H' => ∃ (v3 : Option V), σ = [some (.ref a), some (.int e), some (.ref o), v3] ∧ Same H H' ∧ RowsW H' o ((three e (ds.take i)).map br))
      ⟨_, rfl, s0, RowsW.nil⟩ (fun i σ H' _ ⟨_, _, b, _⟩ => b.seq hS) ?_ ?_⟩
    · rintro i v σ H' hi ⟨v3, rfl, sm, hR⟩
      obtain ⟨p, d, rfl, hp, hd, hX⟩ := hO.item hi
      have hX' := hX.same sm
      obtain ⟨dj, hj⟩ := id hX'
      have hsn : three e (ds.take (i + 1)) = three e (ds.take i) ++ three1 e d := by
        unfold three
        rw [take_one hd, List.flatMap_append, List.flatMap_cons, List.flatMap_nil, List.append_nil]
      have hl3 := len_three e (ds.take i)
      rw [List.length_take] at hl3
      refine ⟨.ref p, rfl, p, dj, _, rfl, hj, dayF_m3 d, _, rfl, p, d, e, rfl, hX', ?_⟩
      refine ⟨rfl, _, rfl, if_dec (fun c => ?_) (fun c => ?_)⟩
      · have c' : d.kind e = 2 := by have := int_eq.mp c; omega
        have hh : d.had < 540 := by
          rw [kind_is] at c'
          by_cases g1 : d.rest.isNone = true ∧ e ≤ d.from_ + 1440
          · rw [if_pos g1] at c'
            cases c'
          · rw [if_neg g1] at c'
            by_cases g2 : d.had < 540
            · exact g2
            · rw [if_neg g2] at c'
              split at c' <;> cases c'
        have et : three1 e d = [⟨3, d.from_ + Kg70.DAY, Kg70.SHORT - d.had⟩] := by unfold three1; rw [if_pos c']
        refine app3 (x := ((d.from_ + 1440 : Nat) : Int)) (y := 3) (z := ((540 - d.had : Nat) : Int)) rfl hR (by rw [List.length_map]; omega) (gvN_add (fun Q q => ⟨.ref p, rfl, p, CD, dj, _, _, rfl, hj, T.cl_Day, T.n_Day_start, dayF_start d, q⟩) (gvN_c (n := 1440))) gv_c
          (gvN_sub (gvN_c (n := 540)) (fun Q q => ⟨.ref p, rfl, p, dj, _, rfl, hj, dayF_m2 d, p, d, rfl, hX', q⟩) (by omega)) fun H3 hR3 b3 => ?_
        refine ⟨_, rfl, but_same sm no b3, ?_⟩
        rw [hsn, et, List.map_append]
        exact hR3
      · have c' : ¬ d.kind e = 2 := fun q => c (int_eq.mpr (by omega))
        have et : three1 e d = [] := by unfold three1; rw [if_neg c']
        rw [hsn, et, List.append_nil]
        exact ⟨_, rfl, sm, hR⟩
    · rintro σ H' ⟨v3, rfl, sm, hR⟩
      rw [List.length_map, hO.len, List.take_length] at hR
      exact ⟨_, rfl, k _ _ ⟨sm, no, hR⟩⟩
theorem four_nil (e n : Nat) : four e n [] = [] := by rw [four]
theorem four_cons (e n : Nat) (d : Day) (l : List Day) : four e n (d :: l) = if isWeekly d = true then four e 0 l else if d.kind e = 1 then
      (if 3 < n + 1 then [(⟨4, (d.rest.map Stretch.from_).getD 0, Kg70.LONG - d.had⟩ : Broken)] else []) ++ four e (n + 1) l else four e n l := by rw [four]
theorem ok_surplus_short_rests {f : Addr} {fd : FuncData} (F : Fun K "surplus_short_rests" "surplus_short_rests" s_surplus_short_rests f fd) (T : Txt K mg CS CD CV) (D1 : Km P w K mg base CD 1 "counted_rest" ["self"] (spCounted CD))
    (D2 : Km P w K mg base CD 2 "rest_kind" ["self", "end"] (spKind CD)) (D3 : Km P w K mg base CD 1 "ends_in_weekly_rest" ["self"] (spWeeklyDay CD)) :
    FnOk P w K mg base CX0 3 f fd ["days", "end"] (spPerDay K CD fun e l => four e 0 l) := by
  obtain ⟨f_Day_counted_rest, fd_Day_counted_rest, G_Day_counted_rest, m_Day_counted_rest, B_Day_counted_rest⟩ := D1
  obtain ⟨f_Day_rest_kind, fd_Day_rest_kind, G_Day_rest_kind, m_Day_rest_kind, B_Day_rest_kind⟩ := D2
  obtain ⟨f_Day_ends_in_weekly_rest, fd_Day_ends_in_weekly_rest, G_Day_ends_in_weekly_rest, m_Day_ends_in_weekly_rest, B_Day_ends_in_weekly_rest⟩ := D3
  refine F.ok sc_surplus_short_rests (fun vs H Q E h => ?_) (fun cdv A outer s H vs Q E hr h => ⟨_, (pss_cons (ps_set (i := 2) sc_surplus_short_rests.nd rfl (Or.inl rfl) (pe_lst pa_nil))
      (pss_cons (ps_set (i := 3) sc_surplus_short_rests.nd rfl (Or.inl rfl) pe_int)
      (pss_cons (ps_for PassesOwn.never rfl (pi_list (pv 0)) (pg_name (i := 4) sc_surplus_short_rests.nd rfl (Or.inl rfl)) (pss_one (ps_if (pt_val (pe_meth0 (pv 4) T.cl_Day m_Day_ends_in_weekly_rest G_Day_ends_in_weekly_rest (hr.mono (by decide)) B_Day_ends_in_weekly_rest .nil pass0)) (pss_one (ps_set (i := 3) sc_surplus_short_rests.nd rfl (Or.inl rfl) pe_int)) (pss_one (ps_if (pt_cmpR op_eq (pe_meth (pv 4) T.cl_Day m_Day_rest_kind G_Day_rest_kind (hr.mono (by decide)) B_Day_rest_kind .nil pass0 (pa_cons (pv 1) pa_nil)) (pe_k rfl T.c_SHORT) (nomark _)) (pss_cons (ps_aug (i := 3) sc_surplus_short_rests.nd rfl (Or.inl rfl) pe_int ip_add)
      (pss_one (ps_if (pt_cmpR op_gt (pv 3) (pe_k rfl T.c_MOST_SHORT_RESTS) (nomark _)) (pss_one (ps_expr (pe_bm PySem.F.plainAttrs_list PySem.F.slot_list_append PySem.F.type_list_append mt_append (pv 2) (pa_cons (pe_tup (pa_cons (pe_fld (pv 4) rfl) (pa_cons pe_int (pa_cons (pe_op op_sub (pe_k rfl T.c_WHOLE_REST) (pe_meth0 (pv 4) T.cl_Day m_Day_counted_rest G_Day_counted_rest (hr.mono (by decide)) B_Day_counted_rest .nil pass0)) pa_nil)))) pa_nil)))) pss_nil))) pss_nil)))))
      (pss_one (ps_ret (pv 2)))))), ?_⟩)
  · obtain ⟨a, ds, e, rfl, _⟩ := h
    rfl
  · obtain ⟨a, ds, e, rfl, ⟨ps, hS, hO⟩, hlen, hok, k⟩ := h
    refine ⟨Nat.zero_le _, fun o no => ?_⟩
    have s0 : Same H (upd H o (.lst [])) := same_next (Same.refl H) no
    refine ⟨_, rfl, a, rfl, ⟨_, s0.seq hS⟩, for_list (K := K) (a := a) (xs := ps.map V.ref) (fun i σ H' => ∃ (n : Nat) (v4 : Option V) (done : List Broken), σ = [some (.ref a), some (.int e), some (.ref o), some (.int n), v4] ∧ Same H H' ∧ RowsW H' o (done.map br) ∧ four e 0 ds = done ++ four e n (ds.drop i) ∧ done.length ≤ i)
      ⟨0, _, [], rfl, s0, RowsW.nil, rfl, Nat.le_refl _⟩ (fun i σ H' _ ⟨_, _, _, _, b, _⟩ => b.seq hS) ?_ ?_⟩
    · rintro i v σ H' hi ⟨n, v4, done, rfl, sm, hR, hD, hdl⟩
      obtain ⟨p, d, rfl, hp, hd, hX⟩ := hO.item hi
      have hdi := lt_of_get hd
      have hX' := hX.same sm
      obtain ⟨dj, hj⟩ := id hX'
      have hdk := hok d (List.mem_of_getElem? hd)
      rw [drop_one hd, four_cons] at hD
      refine ⟨.ref p, rfl, p, dj, _, rfl, hj, dayF_m4 d, p, d, rfl, hX', (fun r hr => by have := (hdk.2.2 r hr).2.1; omega), ?_⟩
      refine ⟨_, rfl, ?_⟩
      cases hw : isWeekly d with
      | true =>
        rw [hw, if_pos rfl] at hD
        exact if_true_of rfl ⟨0, _, done, rfl, sm, hR, hD, by omega⟩
      | false =>
        rw [hw, if_neg (by decide)] at hD
        refine if_false_of rfl ?_
        refine ⟨.ref p, rfl, p, dj, _, rfl, hj, dayF_m3 d, _, rfl, p, d, e, rfl, hX', ?_⟩
        refine ⟨rfl, _, rfl, if_dec (fun c => ?_) (fun c => ?_)⟩
        · have c' : d.kind e = 1 := by have := int_eq.mp c; omega
          have hh : d.had < 660 := by
            have c1 := c'
            rw [kind_is] at c1
            by_cases g1 : d.rest.isNone = true ∧ e ≤ d.from_ + 1440
            · rw [if_pos g1] at c1
              cases c1
            · rw [if_neg g1] at c1
              by_cases g2 : d.had < 540
              · omega
              · rw [if_neg g2] at c1
                by_cases g3 : 660 ≤ d.had ∨ d.part = true
                · rw [if_pos g3] at c1
                  cases c1
                · have : ¬ 660 ≤ d.had := fun q => g3 (.inl q)
                  omega
          rw [if_pos c'] at hD
          refine s_augN (i := 3) rfl (gvN_c (n := 1)) ?_
          refine ⟨_, rfl, _, _, rfl, rfl, _, rfl, if_dec (fun c2 => ?_) (fun c2 => ?_)⟩
          · rw [if_pos (by omega)] at hD
            have ef : (d.rest.map Stretch.from_).getD 0 = restFrom d := by
              unfold restFrom
              cases d.rest <;> rfl
            refine app3 (x := (restFrom d : Int)) (y := 4) (z := ((660 - d.had : Nat) : Int)) rfl hR (by rw [List.length_map]; omega) (fun Q q => ⟨.ref p, rfl, p, CD, dj, _, _, rfl, hj, T.cl_Day, T.n_Day_rest_start, dayF_from d, q⟩) gv_c
              (gvN_sub (gvN_c (n := 660)) (fun Q q => ⟨.ref p, rfl, p, dj, _, rfl, hj, dayF_m2 d, p, d, rfl, hX', q⟩) (by omega)) fun H3 hR3 b3 => ?_
            refine ⟨n + 1, _, done ++ [⟨4, (d.rest.map Stretch.from_).getD 0, Kg70.LONG - d.had⟩], rfl, but_same sm no b3, ?_, by rw [hD, List.append_assoc], by simp; omega⟩
            rw [List.map_append, ef]
            exact hR3
          · rw [if_neg (by omega), List.nil_append] at hD
            exact ⟨n + 1, _, done, rfl, sm, hR, hD, by omega⟩
        · have c' : ¬ d.kind e = 1 := fun q => c (int_eq.mpr (by omega))
          rw [if_neg c'] at hD
          exact ⟨n, _, done, rfl, sm, hR, hD, by omega⟩
    · rintro σ H' ⟨n, v4, done, rfl, sm, hR, hD, hdl⟩
      rw [List.length_map, hO.len, List.drop_length, four_nil, List.append_nil] at hD
      refine ⟨_, rfl, k _ _ ⟨sm, no, ?_⟩⟩
      show RowsW H' o ((four e 0 ds).map br)
      rw [hD]
      exact hR
end
end Dh

end
section
set_option Elab.async false
set_option maxRecDepth 100000
set_option maxHeartbeats 4000000
namespace Dh
open PySem PySem.Spec PyProof.Rows L2
open Kg70 (Stretch Told line total Broken Day Debt sixDays twoShort inWeek days toldOf within)
theorem size2 (n : Nat) : Builtin.Range.rangeSize 0 ((2 * n : Nat) : Int) 2 = (n : Int) := by
  unfold Builtin.Range.rangeSize
  rw [if_pos (by decide)]
  split <;> omega
theorem fits {z : Int} (h1 : -1000000000 ≤ z) (h2 : z ≤ 1000000000) : Builtin.Range.rangeFitsLong z = true := by
  unfold Builtin.Range.rangeFitsLong
  rw [Bool.and_eq_true]
  exact ⟨decide_eq_true (by omega), decide_eq_true (by omega)⟩
theorem rgc2 {n : Nat} (h : n ≤ 100000) : RgC 0 ((2 * n : Nat) : Int) 2 n := by
  refine ⟨by decide, by decide, ?_, size2 n⟩
  unfold Builtin.Range.small
  rw [size2, if_pos (by decide), fits (by decide) (by decide), fits (by omega) (by omega), fits (by decide) (by decide), fits (by omega) (by omega), fits (by omega) (by omega)]
  simp
/-! ### what is told, read off a list of numbers -/
theorem toldOf_two (k n : Int) (l : List Int) : toldOf (k :: n :: l) = if (within k 0 2 && within n 1 20000) = true then (toldOf l).map fun r => (k.toNat, n.toNat) :: r else none := by rw [toldOf]
theorem toldOf_len : ∀ (l : List Int) (t : Told), toldOf l = some t → l.length = 2 * t.length
  | [], t, h => by rw [toldOf] at h; cases h; rfl
  | [k], t, h => by simp [toldOf] at h
  | k :: n :: l, t, h => by
    rw [toldOf_two] at h
    split at h
    · cases e : toldOf l with
      | none => rw [e] at h; cases h
      | some r =>
        rw [e] at h
        cases h
        have := toldOf_len l r e
        simp only [List.length_cons]
        omega
    · cases h
theorem within_iff (z a b : Int) : within z a b = true ↔ a ≤ z ∧ z ≤ b := by
  unfold within
  rw [Bool.and_eq_true, decide_eq_true_eq, decide_eq_true_eq]
theorem toldOf_get : ∀ (l : List Int) (t : Told) (i : Nat) (x : Nat × Nat), toldOf l = some t → t[i]? = some x → l[2 * i]? = some (x.1 : Int) ∧ l[2 * i + 1]? = some (x.2 : Int)
  | [], t, i, x, h, g => by rw [toldOf] at h; cases h; simp at g
  | [k], t, i, x, h, g => by simp [toldOf] at h
  | k :: n :: l, t, i, x, h, g => by
    rw [toldOf_two] at h
    split at h
    · rename_i c
      rw [Bool.and_eq_true, within_iff, within_iff] at c
      cases e : toldOf l with
      | none => rw [e] at h; cases h
      | some r =>
        rw [e] at h
        cases h
        cases i with
        | zero =>
          have e1 : (k.toNat, n.toNat) = x := Option.some.inj g
          subst e1
          refine ⟨?_, ?_⟩
          · show some k = some _
            rw [Int.toNat_of_nonneg c.1.1]
          · show some n = some _
            rw [Int.toNat_of_nonneg (by omega)]
        | succ i =>
          have := toldOf_get l r i x e g
          have e1 : 2 * (i + 1) = 2 * i + 2 := by omega
          have e2 : 2 * (i + 1) + 1 = 2 * i + 1 + 2 := by omega
          rw [e1]
          exact this
    · cases h
theorem toldOf_ok : ∀ (l : List Int) (t : Told), toldOf l = some t → ToldOk t
  | [], t, h => by
    rw [toldOf] at h
    cases h
    intro x m
    cases m
  | [k], t, h => by simp [toldOf] at h
  | k :: n :: l, t, h => by
    rw [toldOf_two] at h
    split at h
    · rename_i c
      rw [Bool.and_eq_true, within_iff, within_iff] at c
      cases e : toldOf l with
      | none => rw [e] at h; cases h
      | some r =>
        rw [e] at h
        cases h
        intro x m
        rcases List.mem_cons.mp m with rfl | m
        · dsimp only
          omega
        · exact toldOf_ok l r e x m
    · cases h
theorem toldOf_odd : ∀ (l : List Int), l.length % 2 = 1 → toldOf l = none
  | [], h => by simp at h
  | [k], h => by simp [toldOf]
  | k :: n :: l, h => by
    rw [toldOf_two]
    have := toldOf_odd l (by simp only [List.length_cons] at h; omega)
    rw [this]
    split <;> rfl
section
variable {P : Program} {w : World} {K : PySem.W.Frag} {mg : Str → Option Value} {base : Heap} {CS CD CV : Addr}
def spAre (K : PySem.W.Frag) : Sp := fun vs H Q _ => ∃ (a : Addr) (ns : List Int), vs = [.ref a] ∧ SqL K H a (ivs ns) ∧ ns.length ≤ 1000 ∧ Q (.bl (toldOf ns).isSome) H
theorem ok_are_stretches {f : Addr} {fd : FuncData} (F : Fun K "are_stretches" "are_stretches" s_are_stretches f fd) (T : Txt K mg CS CD CV) : FnOk P w K mg base CX0 1 f fd ["numbers"] (spAre K) := by
  refine F.ok sc_are_stretches (fun vs H Q E h => ?_) (fun cdv A outer s H vs Q E hr h => ⟨_, (pss_cons (ps_if (pt_cmpR op_ne (pe_op op_mod (pe_callB call_len_seq (by rfl) T.b_len (by decide +kernel) (pa_cons (pv 0) pa_nil)) pe_int) pe_int (nomark _)) (pss_one (ps_ret pe_bl)) pss_nil)
      (pss_cons (ps_for PassesOwn.never rfl (pi_range3 (by rfl) T.b_range (pa_cons pe_int (pa_cons (pe_callB call_len_seq (by rfl) T.b_len (by decide +kernel) (pa_cons (pv 0) pa_nil)) (pa_cons pe_int pa_nil)))) (pg_name (i := 1) sc_are_stretches.nd rfl (Or.inl rfl)) (pss_cons (ps_if (pt_not (pt_chain op_le op_le (pe_k rfl T.c_REST) (pe_ix ix_list (pv 0) (pv 1) (fun _ _ => rfl)) (pe_k rfl T.c_OTHER_WORK))) (pss_one (ps_ret pe_bl)) pss_nil)
      (pss_one (ps_if (pt_not (pt_chain op_le op_le pe_int (pe_ix ix_list (pv 0) (pe_op op_add (pv 1) pe_int) (fun _ _ => rfl)) (pe_k rfl T.c_MOST_MINUTES))) (pss_one (ps_ret pe_bl)) pss_nil))))
      (pss_one (ps_ret pe_bl)))), ?_⟩)
  · obtain ⟨a, ns, rfl, _⟩ := h
    rfl
  · obtain ⟨a, ns, rfl, hS, hlen, k⟩ := h
    have hl : (ivs ns).length = ns.length := List.length_map _
    refine ⟨.ref a, rfl, a, _, rfl, .inl hS, _, _, rfl, rfl, (by show (0 : Int) < 2; decide), rfl, _, rfl, if_ndec (fun c => ?_) (fun c => ?_)⟩
    · rw [hl] at c
      have : ns.length % 2 = 1 := by
        have c : ¬ V.int ((ns.length : Int) % 2) = V.int 0 := c
        have c1 : ¬ ((ns.length : Int) % 2 = 0) := fun q => c (int_eq.mpr q)
        omega
      rw [toldOf_odd ns this] at k
      exact k
    · rw [hl] at c
      have he : ns.length % 2 = 0 := by
        have c : V.int ((ns.length : Int) % 2) = V.int 0 := c
        have c1 := int_eq.mp c
        omega
      obtain ⟨m, hm⟩ : ∃ m, ns.length = 2 * m := ⟨ns.length / 2, by omega⟩
      have hr2 : RgC 0 ((ivs ns).length : Int) 2 m := by
        rw [hl, hm]
        exact rgc2 (by omega)
      refine ⟨.ref a, rfl, a, _, rfl, .inl hS, 0, _, 2, m, rfl, hr2, for_rangeC (lo := 0) (c := 2) (n := m) (fun i σ H' => ∃ v1, σ = [some (.ref a), v1] ∧ H' = H ∧ (toldOf ns).isSome = (toldOf (ns.drop (2 * i))).isSome) ⟨_, rfl, rfl, rfl⟩ ?_ ?_⟩
      · rintro i σ H' hi ⟨v1, rfl, rfl, hD⟩
        have h1 : ∃ x, ns[2 * i]? = some x := ⟨_, List.getElem?_eq_getElem (by omega)⟩
        have h2 : ∃ x, ns[2 * i + 1]? = some x := ⟨_, List.getElem?_eq_getElem (by omega)⟩
        obtain ⟨x, hx⟩ := h1
        obtain ⟨y, hy⟩ := h2
        have e1 : 2 * (i + 1) = 2 * i + 1 + 1 := by omega
        rw [drop_one hx, drop_one hy, toldOf_two] at hD
        have ei : (0 : Int) + (i : Int) * 2 = ((2 * i : Nat) : Int) := by omega
        have ei2 : (0 : Int) + (i : Int) * 2 + 1 = ((2 * i + 1 : Nat) : Int) := by omega
        have gx : (ivs ns)[2 * i]? = some (.int x) := by rw [List.getElem?_map, hx]; rfl
        have gy : (ivs ns)[2 * i + 1]? = some (.int y) := by rw [List.getElem?_map, hy]; rfl
        refine ⟨.ref a, rfl, _, rfl, a, _, _, _, rfl, rfl, hS, at_of ei gx, _, _, rfl, rfl, _, rfl, ?_⟩
        have no1 : ¬ (within x 0 2 && within y 1 20000) = true → ∀ Q' : VK, Q (.bl (toldOf ns).isSome) H' → Q (.bl false) H' := fun c _ q => by
          rw [hD, if_neg c] at q
          exact q
        refine if_dec (fun c1 => ?_) (fun c1 => ?_)
        · refine ⟨_, _, rfl, rfl, _, rfl, if_ndec (fun c2 => ?_) (fun c2 => ?_)⟩
          · exact no1 (by rw [Bool.and_eq_true, within_iff, within_iff]; omega) Q k
          · refine ⟨.ref a, rfl, _, rfl, _, _, rfl, rfl, a, _, _, _, rfl, rfl, hS, at_of ei2 gy, _, _, rfl, rfl, _, rfl, ?_⟩
            refine if_dec (fun c3 => ?_) (fun c3 => ?_)
            · refine ⟨_, _, rfl, rfl, _, rfl, if_ndec (fun c4 => ?_) (fun c4 => ?_)⟩
              · exact no1 (by rw [Bool.and_eq_true, within_iff, within_iff]; omega) Q k
              · rw [if_pos (by rw [Bool.and_eq_true, within_iff, within_iff]; omega)] at hD
                refine ⟨_, rfl, rfl, ?_⟩
                rw [e1, hD]
                cases toldOf (ns.drop (2 * i + 1 + 1)) <;> rfl
            · refine ⟨_, rfl, if_true_of rfl ?_⟩
              exact no1 (by rw [Bool.and_eq_true, within_iff, within_iff]; omega) Q k
        · refine ⟨_, rfl, if_true_of rfl ?_⟩
          exact no1 (by rw [Bool.and_eq_true, within_iff, within_iff]; omega) Q k
      · rintro σ H' ⟨v1, rfl, rfl, hD⟩
        rw [← hm, List.drop_length] at hD
        rw [hD, toldOf] at k
        exact k
/-! ### all that's broken, in order -/
/-- xs.extend(e), e a new list of broken things -/
theorem ext_step {K : PySem.W.Frag} {D : Ends} {u : TS} {σ : L2.St} {H : Hp} {i : Nat} {o : Addr} {l1 l2 : List Broken} {te : TE} (hi : σ[i]? = some (some (.ref o))) (ho : RowsW H o (l1.map br)) (hl : l1.length + l2.length ≤ 1000000)
    (he : ∀ Q : VK, (∀ H1 q, NewRows H H1 q (l2.map br) → Q (.ref q) H1) → te σ H Q) (k : ∀ H', RowsW H' o ((l1 ++ l2).map br) → But o H H' → u D σ H') :
    tSeq (tDrop (tBM K "list" rExtend (tVar i) (tCons te tNil))) u D σ H := by
  obtain ⟨ps, e, t⟩ := ho
  refine ⟨_, hi, .inl ⟨rfl, _, SqL.of e⟩, he _ fun H1 q n => ?_⟩
  obtain ⟨qs, e2, t2⟩ := n.rows
  have e1 := n.same _ _ e
  refine ⟨o, q, _, _, rfl, rfl, e1, e2, ?_, ?_⟩
  · rw [List.length_map, List.length_map, t.len, t2.len, List.length_map, List.length_map]
    exact szle hl
  · refine k _ ⟨ps ++ qs, ?_, ?_⟩ fun c x h ne => ?_
    · rw [upd_same, List.map_append]
    · rw [List.map_append]
      exact ((t.same n.same).app t2).sub fun p xs h => (upd_ne (lst_ne_tup e1 h)).trans h
    · rw [upd_ne ne]
      exact n.same _ _ h
/-- what stands in the heap at a value: the tuple's three numbers -/
def rd3 (H : Hp) : V → Int × Int × Int
  | .ref t => match H t with
    | some (.tup [.int a, .int b, .int c]) => (a, b, c)
    | _ => (0, 0, 0)
  | _ => (0, 0, 0)
def rdB (H : Hp) (v : V) : Broken := ⟨(rd3 H v).2.1.toNat, (rd3 H v).1.toNat, (rd3 H v).2.2.toNat⟩
theorem rd3_at {H : Hp} {t : Addr} {b : Broken} (h : H t = some (.tup (ivs (br b)))) : rd3 H (.ref t) = ((b.at_ : Int), (b.rule : Int), (b.minutes : Int)) := by
  show (match H t with
    | some (.tup [.int a, .int b, .int c]) => (a, b, c)
    | _ => (0, 0, 0)) = _
  rw [h]
  rfl
theorem rdB_at {H : Hp} {t : Addr} {b : Broken} (h : H t = some (.tup (ivs (br b)))) : rdB H (.ref t) = b := by
  unfold rdB
  rw [rd3_at h]
  simp
theorem Tups.rdB {H : Hp} : ∀ {ps : List Addr} {l : List Broken}, Tups H ps (l.map br) → (ps.map V.ref).map (Dh.rdB H) = l
  | [], [], _ => rfl
  | p :: ps, b :: l, h => by
    rw [List.map_cons, List.map_cons, rdB_at h.1, Tups.rdB h.2]
theorem lex_before (a b : Broken) : SrtO.lex3 ((a.at_ : Int), (a.rule : Int), (a.minutes : Int)) ((b.at_ : Int), (b.rule : Int), (b.minutes : Int)) = Kg70.before a b := by
  cases h : Kg70.before a b with
  | true =>
    have := (before_iff a b).mp h
    exact SrtO.lex3_iff.mpr (by dsimp only; omega)
  | false =>
    have := (before_no a b).mp h
    exact SrtO.lex3_no.mpr (by dsimp only; omega)
theorem adr : ∀ {ys : List V}, (∀ v ∈ ys, ∃ t, v = V.ref t) → ∃ qs : List Addr, ys = qs.map V.ref
  | [], _ => ⟨[], rfl⟩
  | v :: ys, h => by
    obtain ⟨t, e⟩ := h v (List.mem_cons_self ..)
    obtain ⟨qs, e2⟩ := adr (ys := ys) fun x m => h x (List.mem_cons_of_mem _ m)
    exact ⟨t :: qs, by rw [e, e2]; rfl⟩
theorem tups_of {H : Hp} : ∀ {qs : List Addr}, (∀ q ∈ qs, ∃ b : Broken, H q = some (.tup (ivs (br b)))) → Tups H qs (((qs.map V.ref).map (rdB H)).map br)
  | [], _ => trivial
  | q :: qs, h => by
    obtain ⟨b, e⟩ := h q (List.mem_cons_self ..)
    refine ⟨?_, tups_of fun x m => h x (List.mem_cons_of_mem _ m)⟩
    rw [rdB_at e]
    exact e
/-- sorted(broken) -/
theorem gv_sorted {K : PySem.W.Frag} {te : TE} {σ : L2.St} {H : Hp} {a : Addr} {l : List Broken} (he : Gv te σ H (.ref a)) (h : RowsW H a (l.map br)) (Q : VK) (k : ∀ (s : List Broken) H' p, NewRows H H' p (s.map br) → Rising s → s.Perm l → Q (.ref p) H') : tCB (rSorted3 K) (tCons te tNil) σ H Q := by
  obtain ⟨ps, e, t⟩ := h
  have hx : ∀ x ∈ ps.map V.ref, ∃ (q : Addr) (b : Broken), x = .ref q ∧ H q = some (.tup (ivs (br b))) := fun x m => by
    obtain ⟨i, hi⟩ := List.mem_iff_getElem?.mp m
    obtain ⟨p, b, e1, e2, e3⟩ := t.item hi
    exact ⟨p, b, e1, e3⟩
  refine he _ ⟨a, ps.map V.ref, rd3 H, rfl, SqL.of e, fun x m => ?_, fun ys p hs hp np => ?_⟩
  · obtain ⟨q, b, e1, e2⟩ := hx x m
    refine ⟨q, e1, ?_⟩
    rw [e1, rd3_at e2]
    exact e2
  · have hy : ∀ v ∈ ys, ∃ (q : Addr) (b : Broken), v = .ref q ∧ H q = some (.tup (ivs (br b))) := fun v m => hx v (hp.mem_iff.mp m)
    obtain ⟨qs, rfl⟩ := adr fun v m => let ⟨q, _, e1, _⟩ := hy v m; ⟨q, e1⟩
    have hq : ∀ q ∈ qs, ∃ b : Broken, H q = some (.tup (ivs (br b))) := fun q m => by
      obtain ⟨q', b, e1, e2⟩ := hy (.ref q) (List.mem_map.mpr ⟨q, m, rfl⟩)
      cases e1
      exact ⟨b, e2⟩
    refine k ((qs.map V.ref).map (rdB H)) _ p ⟨same_next (Same.refl H) np, np, qs, upd_same, ?_⟩ ?_ ?_
    · exact (tups_of hq).sub fun c xs g => (upd_ne (ne_of_none g np)).trans g
    · refine List.pairwise_map.mpr (hs.imp_of_mem ?_)
      intro x y mx my hlt
      obtain ⟨q1, b1, e1, f1⟩ := hy x mx
      obtain ⟨q2, b2, e2, f2⟩ := hy y my
      subst e1 e2
      rw [rdB_at f1, rdB_at f2, ← lex_before, ← rd3_at f1, ← rd3_at f2]
      exact hlt
    · have := hp.map (rdB H)
      rw [t.rdB] at this
      exact this
def spAll (K : PySem.W.Frag) : Sp := fun vs H Q _ => ∃ (a : Addr) (t : Told), vs = [.ref a] ∧ RowsR K H a (t.map tr) ∧ t.length ≤ 400 ∧ ToldOk t ∧ ∀ H' p, NewRows H H' p ((Kg70.report t).map br) → Q (.ref p) H'
theorem ok_all_broken {f : Addr} {fd : FuncData} (F : Fun K "all_broken" "all_broken" s_all_broken f fd) (T : Txt K mg CS CD CV)
    (D1 : Kn P w K mg base 1 "stretches_of" ["told"] (spStr K)) (D2 : Kn P w K mg base 1 "end_of" ["told"] (spEnd K)) (D3 : Kn P w K mg base 3 "days_of" ["stretches"] (spDays K CD))
    (D4 : Kn P w K mg base 4 "missed_breaks" ["stretches"] (spMissed K)) (D5 : Kn P w K mg base 1 "overdriven_days" ["days"] (spTwo K CD))
    (D6 : Kn P w K mg base 3 "too_short_rests" ["days", "end"] (spPerDay K CD three)) (D7 : Kn P w K mg base 3 "surplus_short_rests" ["days", "end"] (spPerDay K CD fun e l => four e 0 l))
    (D8 : Kn P w K mg base 3 "late_weekly_rests" ["stretches", "end"] (spBroken K late)) (D9 : Kn P w K mg base 3 "twice_short_weekly_rests" ["stretches", "end"] (spBroken K twice))
    (D10 : Kn P w K mg base 3 "weekly_rests_not_made_up_for" ["stretches", "end"] (spBroken K unpaid)) (D11 : Kn P w K mg base 3 "overdriven_weeks" ["stretches"] (spWeeks K)) :
    FnOk P w K mg base CX0 5 f fd ["told"] (spAll K) := by
  obtain ⟨f_stretches_of, fd_stretches_of, G_stretches_of, g_stretches_of, k_stretches_of, B_stretches_of⟩ := D1
  obtain ⟨f_end_of, fd_end_of, G_end_of, g_end_of, k_end_of, B_end_of⟩ := D2
  obtain ⟨f_days_of, fd_days_of, G_days_of, g_days_of, k_days_of, B_days_of⟩ := D3
  obtain ⟨f_missed_breaks, fd_missed_breaks, G_missed_breaks, g_missed_breaks, k_missed_breaks, B_missed_breaks⟩ := D4
  obtain ⟨f_overdriven_days, fd_overdriven_days, G_overdriven_days, g_overdriven_days, k_overdriven_days, B_overdriven_days⟩ := D5
  obtain ⟨f_too_short_rests, fd_too_short_rests, G_too_short_rests, g_too_short_rests, k_too_short_rests, B_too_short_rests⟩ := D6
  obtain ⟨f_surplus_short_rests, fd_surplus_short_rests, G_surplus_short_rests, g_surplus_short_rests, k_surplus_short_rests, B_surplus_short_rests⟩ := D7
  obtain ⟨f_late_weekly_rests, fd_late_weekly_rests, G_late_weekly_rests, g_late_weekly_rests, k_late_weekly_rests, B_late_weekly_rests⟩ := D8
  obtain ⟨f_twice_short_weekly_rests, fd_twice_short_weekly_rests, G_twice_short_weekly_rests, g_twice_short_weekly_rests, k_twice_short_weekly_rests, B_twice_short_weekly_rests⟩ := D9
  obtain ⟨f_weekly_rests_not_made_up_for, fd_weekly_rests_not_made_up_for, G_weekly_rests_not_made_up_for, g_weekly_rests_not_made_up_for, k_weekly_rests_not_made_up_for, B_weekly_rests_not_made_up_for⟩ := D10
  obtain ⟨f_overdriven_weeks, fd_overdriven_weeks, G_overdriven_weeks, g_overdriven_weeks, k_overdriven_weeks, B_overdriven_weeks⟩ := D11
  refine F.ok sc_all_broken (fun vs H Q E h => ?_) (fun cdv A outer s H vs Q E hr h => ⟨_, (pss_cons (ps_set (i := 1) sc_all_broken.nd rfl (Or.inl rfl) (pe_call G_stretches_of (hr.mono (by decide)) (by rfl) g_stretches_of k_stretches_of B_stretches_of .nil pass0 (pa_cons (pv 0) pa_nil)))
      (pss_cons (ps_set (i := 2) sc_all_broken.nd rfl (Or.inl rfl) (pe_call G_end_of (hr.mono (by decide)) (by rfl) g_end_of k_end_of B_end_of .nil pass0 (pa_cons (pv 0) pa_nil)))
      (pss_cons (ps_set (i := 3) sc_all_broken.nd rfl (Or.inl rfl) (pe_call G_days_of (hr.mono (by decide)) (by rfl) g_days_of k_days_of B_days_of .nil pass0 (pa_cons (pv 1) pa_nil)))
      (pss_cons (ps_set (i := 4) sc_all_broken.nd rfl (Or.inl rfl) (pe_call G_missed_breaks (hr.mono (by decide)) (by rfl) g_missed_breaks k_missed_breaks B_missed_breaks .nil pass0 (pa_cons (pv 1) pa_nil)))
      (pss_cons (ps_expr (pe_bm PySem.F.plainAttrs_list PySem.F.slot_list_extend PySem.F.type_list_extend mt_extend (pv 4) (pa_cons (pe_call G_overdriven_days (hr.mono (by decide)) (by rfl) g_overdriven_days k_overdriven_days B_overdriven_days .nil pass0 (pa_cons (pv 3) pa_nil)) pa_nil)))
      (pss_cons (ps_expr (pe_bm PySem.F.plainAttrs_list PySem.F.slot_list_extend PySem.F.type_list_extend mt_extend (pv 4) (pa_cons (pe_call G_too_short_rests (hr.mono (by decide)) (by rfl) g_too_short_rests k_too_short_rests B_too_short_rests .nil pass0 (pa_cons (pv 3) (pa_cons (pv 2) pa_nil))) pa_nil)))
      (pss_cons (ps_expr (pe_bm PySem.F.plainAttrs_list PySem.F.slot_list_extend PySem.F.type_list_extend mt_extend (pv 4) (pa_cons (pe_call G_surplus_short_rests (hr.mono (by decide)) (by rfl) g_surplus_short_rests k_surplus_short_rests B_surplus_short_rests .nil pass0 (pa_cons (pv 3) (pa_cons (pv 2) pa_nil))) pa_nil)))
      (pss_cons (ps_expr (pe_bm PySem.F.plainAttrs_list PySem.F.slot_list_extend PySem.F.type_list_extend mt_extend (pv 4) (pa_cons (pe_call G_late_weekly_rests (hr.mono (by decide)) (by rfl) g_late_weekly_rests k_late_weekly_rests B_late_weekly_rests .nil pass0 (pa_cons (pv 1) (pa_cons (pv 2) pa_nil))) pa_nil)))
      (pss_cons (ps_expr (pe_bm PySem.F.plainAttrs_list PySem.F.slot_list_extend PySem.F.type_list_extend mt_extend (pv 4) (pa_cons (pe_call G_twice_short_weekly_rests (hr.mono (by decide)) (by rfl) g_twice_short_weekly_rests k_twice_short_weekly_rests B_twice_short_weekly_rests .nil pass0 (pa_cons (pv 1) (pa_cons (pv 2) pa_nil))) pa_nil)))
      (pss_cons (ps_expr (pe_bm PySem.F.plainAttrs_list PySem.F.slot_list_extend PySem.F.type_list_extend mt_extend (pv 4) (pa_cons (pe_call G_weekly_rests_not_made_up_for (hr.mono (by decide)) (by rfl) g_weekly_rests_not_made_up_for k_weekly_rests_not_made_up_for B_weekly_rests_not_made_up_for .nil pass0 (pa_cons (pv 1) (pa_cons (pv 2) pa_nil))) pa_nil)))
      (pss_cons (ps_expr (pe_bm PySem.F.plainAttrs_list PySem.F.slot_list_extend PySem.F.type_list_extend mt_extend (pv 4) (pa_cons (pe_call G_overdriven_weeks (hr.mono (by decide)) (by rfl) g_overdriven_weeks k_overdriven_weeks B_overdriven_weeks .nil pass0 (pa_cons (pv 1) pa_nil)) pa_nil)))
      (pss_one (ps_ret (pe_callB cr_sorted3 (by rfl) T.b_sorted (by decide +kernel) (pa_cons (pv 4) pa_nil))))))))))))))), ?_⟩)
  · obtain ⟨a, t, rfl, _⟩ := h
    rfl
  · obtain ⟨a, t, rfl, hR, hlen, hok, k⟩ := h
    have hLn := line_ok t hok
    have hEnd := endOf_line t
    have hll := len_line t
    have htl := total_le t hok
    have hall : ∀ s ∈ line t, s.from_ < s.till ∧ s.till ≤ total t := fun s m => by
      have := till_le _ _ _ hLn s m
      rw [hEnd] at this
      exact ⟨this.2.1, this.2.2.1⟩
    have hdays := days_ok (total t) (line t) none 0 none hLn (by rw [hEnd]; exact Nat.le_refl _) (fun d q => by cases q)
    have hdl := len_days (line t) none
    simp only [Option.isSome_none, Bool.false_eq_true, if_false, Nat.add_zero] at hdl
    have hW : Kg70.WEEK = 10080 := rfl
    refine ⟨_, rfl, a, t, rfl, hR, by omega, fun H1 p1 r1 => ?_⟩
    refine ⟨_, rfl, a, t, rfl, hR.same r1.same, by omega, fun H2 s2 => ?_⟩
    refine ⟨_, rfl, p1, line t, rfl, (r1.rows.read.same s2), by omega, hLn, fun H3 p3 s3 n3 hd3 => ?_⟩
    have s13 : Same H1 H3 := s2.trans s3
    refine ⟨_, rfl, p1, line t, rfl, (r1.rows.read.same s13), by omega, (fun s m => (hall s m).1), fun H4 o r4 => ?_⟩
    have s04 : Same H H4 := r1.same.trans (s13.trans r4.same)
    have noH : H o = none := same_back (r1.same.trans s13) r4.new
    have hS4 : RowsR K H4 p1 ((line t).map sr) := r1.rows.read.same (s13.trans r4.same)
    have hp1o : p1 ≠ o := fun q => by
      obtain ⟨ps, e, _⟩ := r1.rows
      have := s13 _ _ e
      rw [q, r4.new] at this
      cases this
    have hp3o : p3 ≠ o := fun q => by
      obtain ⟨ps, e, _⟩ := hd3
      rw [q, r4.new] at e
      cases e
    have hd4 : DaysAt CD H4 p3 (days none (line t)) := by
      obtain ⟨ps, e, ob⟩ := hd3
      exact ⟨ps, r4.same _ _ e, ob.sub fun q z _ x => x.same r4.same⟩
    -- what stands all along, for every heap that keeps all but o
    have keep : ∀ H', But o H4 H' → RowsR K H' p1 ((line t).map sr) ∧ DaysR K CD H' p3 (days none (line t)) := fun H' b => by
      obtain ⟨xs, ho, _⟩ := r4.rows
      refine ⟨hS4.but hp1o ho b, ?_⟩
      obtain ⟨ps, e, ob⟩ := hd4
      refine ⟨ps, SqL.of (b _ _ e hp3o), ob.sub fun q z _ x => x.but (x.ne ho) b⟩
    have hL : LnOk (total t) (line t) := ⟨by omega, by omega, hall⟩
    have h1 := len_spells (line t) Kg70.fresh
    have l1 : (missed (line t)).length ≤ 1001 := by
      have : (missed (line t)).length ≤ (spells Kg70.fresh (line t)).length := by
        unfold missed
        generalize spells Kg70.fresh (line t) = rs
        induction rs with
        | nil => simp
        | cons r rs ih =>
          rw [List.flatMap_cons, List.length_append, List.length_cons]
          have : r.ends.length ≤ 1 := by unfold Kg70.Run.ends; split <;> simp
          omega
      omega
    have l2 := len_two (days none (line t)) (0, 0)
    have l3 := len_three (total t) (days none (line t))
    have l4 := len_four (total t) (days none (line t)) 0
    have lw := Nat.le_trans (@weeklyOf_len (line t)) hll
    have l5 : (late (total t) (line t)).length ≤ 1001 := by
      unfold late
      split
      · simp
      · have := len_sixDays (total t) (weeklyOf (line t)) ‹_›
        omega
    have l6 : (twice (total t) (line t)).length ≤ 1000 := by
      have := len_twoShort (total t) (weeklyOf (line t)) false
      unfold twice
      omega
    have l7 : (unpaid (total t) (line t)).length ≤ 1000 := by
      have h1 := len_dues (total t) (owed (total t) [] (restsOf (line t)))
      have h2 := len_owed (total t) (restsOf (line t)) []
      have h3 := @restsOf_len (line t)
      unfold unpaid
      simp only [List.length_nil] at h2
      omega
    have l8 : (overWeeks (total t) (line t)).length ≤ 20000 := by
      have h1 := len_weekRows (byWeek (line t) (total t)) 0 0
      rw [byWeek_len] at h1
      have h2 : nWeeks (total t) ≤ 10000 := by simp only [nWeeks, hW]; omega
      unfold overWeeks
      omega
    obtain ⟨kS, kD⟩ := keep H4 (but_refl o H4)
    refine ext_step (i := 4) (l2 := two (0, 0) (days none (line t))) rfl r4.rows (by omega) (fun Q q => ⟨.ref p3, rfl, p3, days none (line t), rfl, kD, by omega, hdays.2, (fun d m => by have := (hdays.1 d m).1; omega), q⟩) fun H5 r5 b5 => ?_
    obtain ⟨kS, kD⟩ := keep H5 b5
    refine ext_step (i := 4) (l2 := three (total t) (days none (line t))) rfl r5 (by simp only [List.length_append]; omega) (fun Q q => ⟨.ref p3, rfl, _, rfl, p3, days none (line t), total t, rfl, kD, by omega, hdays.1, q⟩) fun H6 r6 b6 => ?_
    have b46 := but_trans b5 b6
    obtain ⟨kS, kD⟩ := keep H6 b46
    refine ext_step (i := 4) (l2 := four (total t) 0 (days none (line t))) rfl r6 (by simp only [List.length_append]; omega) (fun Q q => ⟨.ref p3, rfl, _, rfl, p3, days none (line t), total t, rfl, kD, by omega, hdays.1, q⟩) fun H7 r7 b7 => ?_
    have b47 := but_trans b46 b7
    obtain ⟨kS, kD⟩ := keep H7 b47
    refine ext_step (i := 4) (l2 := late (total t) (line t)) rfl r7 (by simp only [List.length_append]; omega) (fun Q q => ⟨.ref p1, rfl, _, rfl, p1, line t, total t, rfl, kS, hL, q⟩) fun H8 r8 b8 => ?_
    have b48 := but_trans b47 b8
    obtain ⟨kS, kD⟩ := keep H8 b48
    refine ext_step (i := 4) (l2 := twice (total t) (line t)) rfl r8 (by simp only [List.length_append]; omega) (fun Q q => ⟨.ref p1, rfl, _, rfl, p1, line t, total t, rfl, kS, hL, q⟩) fun H9 r9 b9 => ?_
    have b49 := but_trans b48 b9
    obtain ⟨kS, kD⟩ := keep H9 b49
    refine ext_step (i := 4) (l2 := unpaid (total t) (line t)) rfl r9 (by simp only [List.length_append]; omega) (fun Q q => ⟨.ref p1, rfl, _, rfl, p1, line t, total t, rfl, kS, hL, q⟩) fun HA rA bA => ?_
    have b4A := but_trans b49 bA
    obtain ⟨kS, kD⟩ := keep HA b4A
    refine ext_step (i := 4) (l2 := overWeeks (total t) (line t)) rfl rA (by simp only [List.length_append]; omega) (fun Q q => ⟨.ref p1, rfl, p1, line t, rfl, kS, by omega, hLn, by rw [hEnd]; omega, by rw [hEnd]; exact q⟩) fun HB rB bB => ?_
    have b4B := but_trans b4A bB
    refine gv_sorted gv_var rB _ fun s HC pC nC hrise hperm => ?_
    have sB : Same H HB := but_same s04 noH b4B
    refine k _ _ ⟨sB.trans nC.same, same_back sB nC.new, ?_⟩
    rw [← report_is t s hrise hperm]
    exact nC.rows
end
end Dh

end
section
set_option Elab.async false
set_option maxRecDepth 100000
set_option maxHeartbeats 4000000
namespace Dh
open PySem PySem.Spec PyProof.Rows L2
open Kg70 (Stretch Told line total Broken Day Debt sixDays twoShort inWeek days toldOf within)
def drvF (l : Addr) : List (Str × V) := [("told", .ref l)]
def DriverAt (C : Addr) (H : Hp) (a l : Addr) (t : Told) : Prop := (∃ dx, H a = some (.ins C dx (drvF l))) ∧ RowsW H l (t.map tr)
theorem drvF_told (l : Addr) : (drvF l).lookup ("told" : Str) = some (.ref l) := lk0
theorem drvF_none {m : Str} (l : Addr) (h : (m == ("told" : Str)) = false) : (drvF l).lookup m = none := lk1 h rfl
theorem drvF_put (l l' : Addr) : putF "told" (.ref l') (drvF l) = drvF l' := put0
theorem DriverAt.ne {C : Addr} {H : Hp} {a l : Addr} {t : Told} (h : DriverAt C H a l t) : a ≠ l := by
  obtain ⟨⟨dx, e⟩, ps, e2, _⟩ := h
  exact ne_of e e2 (by intro z; cases z)
/-- what a call leaves: the driver at a, what is told at l', the answer at p -/
structure Done (C : Addr) (H H' : Hp) (a l l' p : Addr) (t : Told) (zs : List Int) : Prop where
  drv : DriverAt C H' a l' t
  res : H' p = some (.lst (ivs zs))
  new : H p = none
  ne : p ≠ l'
  told : l' = l ∨ H l' = none
  keep : ∀ b u, H b = some u → b ≠ a → b ≠ l → H' b = some u
def anss (x : Kg70.Ans) : List Int := x.value :: x.out
theorem DriverAt.same {C : Addr} {H H' : Hp} {a l : Addr} {t : Told} (h : DriverAt C H a l t) (s : Same H H') : DriverAt C H' a l t := by
  obtain ⟨⟨dx, e⟩, r⟩ := h
  exact ⟨⟨dx, s _ _ e⟩, r.same s⟩
/-- an answer alone, nothing changed -/
theorem done_same {C : Addr} {H H' : Hp} {a l p : Addr} {t : Told} {zs : List Int} (h : DriverAt C H a l t) (s : Same H H') (n : H p = none) (e : H' p = some (.lst (ivs zs))) : Done C H H' a l l p t zs := by
  refine ⟨h.same s, e, n, fun q => ?_, .inl rfl, fun b u q _ _ => s b u q⟩
  obtain ⟨_, ps, e2, _⟩ := h
  rw [q, e2] at n
  cases n
/-- xs.append((a, b)), xs by an expression -/
theorem app2G {K : PySem.W.Frag} {D : Ends} {σ : L2.St} {H : Hp} {o : Addr} {l : List (List Int)} {to ta tb : TE} {x y : Int} (hi : Gv to σ H (.ref o)) (ho : RowsW H o l) (hl : l.length ≤ 100000)
    (ha : Gv ta σ H (.int x)) (hb : Gv tb σ H (.int y)) (k : ∀ H', RowsW H' o (l ++ [[x, y]]) → But o H H' → D.nx σ H') :
    tDrop (tBM K "list" rAppend to (tCons (tTup (tCons ta (tCons tb tNil))) tNil)) D σ H := by
  obtain ⟨ps, e, t⟩ := ho
  refine hi _ ⟨.inl ⟨rfl, _, SqL.of e⟩, ha _ (hb _ ⟨(by show 2 ≤ sizeLine; decide), fun p hp => ?_⟩)⟩
  have hpo : p ≠ o := fun q => by rw [q, e] at hp; cases hp
  refine ⟨o, _, _, rfl, rfl, (upd_ne hpo.symm).trans e, ?_, ?_⟩
  · rw [List.length_map, t.len]
    exact szl (by omega)
  · exact k _ (RowsW.put (r := [x, y]) e t hp) fun b u q nb => by
      rw [upd_ne nb, upd_ne (ne_of_none q hp)]
      exact q
section
variable {P : Program} {w : World} {K : PySem.W.Frag} {mg : Str → Option Value} {base : Heap} {CS CD CV : Addr}
def spDrvInit (C : Addr) : Sp := fun vs H Q _ => ∃ p dx : Addr, vs = [.ref p] ∧ H p = some (.ins C dx []) ∧ ∀ (H' : Hp) (l : Addr), DriverAt C H' p l [] → H l = none → But p H H' → Q .non H'
theorem ok_Driver_init {f : Addr} {fd : FuncData} (F : Fun K "__init__" "Driver.__init__" s_Driver_init f fd) (T : Txt K mg CS CD CV) : FnOk P w K mg base CX0 1 f fd ["self"] (spDrvInit CV) := by
  refine F.ok sc_Driver_init (fun vs H Q E h => ?_) (fun cdv A outer s H vs Q E hr h => ⟨_, (pss_one (ps_fld (pv 0) (pe_lst pa_nil) rfl)), ?_⟩)
  · obtain ⟨p, dx, rfl, _⟩ := h
    rfl
  · obtain ⟨p, dx, rfl, hp, k⟩ := h
    refine ⟨Nat.zero_le _, fun l nl => ?_⟩
    have hpl : p ≠ l := fun q => by rw [← q, hp] at nl; cases nl
    refine ⟨_, rfl, p, CV, dx, _, rfl, (upd_ne hpl).trans hp, T.cl_Driver, T.n_Driver_told, (by show 0 < 1000; decide), ?_⟩
    refine k _ l ⟨⟨dx, upd_same⟩, [], (upd_ne hpl.symm).trans upd_same, trivial⟩ nl (but_trans (fun b u q _ => same_next (Same.refl H) nl b u q) but_upd)
def spBegin (C : Addr) : Sp := fun vs H Q _ => ∃ (a l : Addr) (t : Told), vs = [.ref a] ∧ DriverAt C H a l t ∧ ∀ H' l' p, Done C H H' a l l' p (Kg70.spec t .begin_).1 (anss (Kg70.spec t .begin_).2) → Q (.ref p) H'
theorem ok_Driver_begin {f : Addr} {fd : FuncData} (F : Fun K "begin" "Driver.begin" s_Driver_begin f fd) (T : Txt K mg CS CD CV) : FnOk P w K mg base CX0 1 f fd ["self"] (spBegin CV) := by
  refine F.ok sc_Driver_begin (fun vs H Q E h => ?_) (fun cdv A outer s H vs Q E hr h => ⟨_, (pss_cons (ps_fld (pv 0) (pe_lst pa_nil) rfl)
      (pss_one (ps_ret (pe_lst (pa_cons pe_int pa_nil))))), ?_⟩)
  · obtain ⟨a, l, t, rfl, _⟩ := h
    rfl
  · obtain ⟨a, l, t, rfl, hd, k⟩ := h
    obtain ⟨⟨dx, ha⟩, _⟩ := id hd
    refine ⟨Nat.zero_le _, fun l' nl => ?_⟩
    have hal : a ≠ l' := fun q => by rw [← q, ha] at nl; cases nl
    refine ⟨_, rfl, a, CV, dx, _, rfl, (upd_ne hal).trans ha, T.cl_Driver, T.n_Driver_told, (by show 1 < 1000; decide), ?_⟩
    rw [drvF_put]
    refine ⟨(by show 1 ≤ sizeLine; decide), fun p np => ?_⟩
    have hpa : p ≠ a := fun q => by rw [q, upd_same] at np; cases np
    have np2 : (upd H l' (.lst [])) p = none := by rw [upd_ne hpa] at np; exact np
    have hpl : p ≠ l' := fun q => by rw [q, upd_same] at np2; cases np2
    have npH : H p = none := by rw [upd_ne hpl] at np2; exact np2
    refine k _ l' p ⟨⟨⟨dx, (upd_ne hpa.symm).trans upd_same⟩, [], ?_, trivial⟩, upd_same, npH, hpl, .inr nl, fun b u q n1 n2 => ?_⟩
    · rw [upd_ne hpl.symm, upd_ne hal.symm, upd_same]
      rfl
    · rw [upd_ne (ne_of_none q npH), upd_ne n1, upd_ne (ne_of_none q nl)]
      exact q
def spAdd (K : PySem.W.Frag) (C : Addr) : Sp := fun vs H Q _ => ∃ (a l n : Addr) (t : Told) (ns : List Int), vs = [.ref a, .ref n] ∧ DriverAt C H a l t ∧ t.length ≤ 400 ∧ SqL K H n (ivs ns) ∧ n ≠ l ∧ n ≠ a ∧ ns.length ≤ 400 ∧
  ∀ H' l' p, Done C H H' a l l' p (Kg70.spec t (.add ns)).1 (anss (Kg70.spec t (.add ns)).2) → Q (.ref p) H'
theorem ok_Driver_add {f : Addr} {fd : FuncData} (F : Fun K "add" "Driver.add" s_Driver_add f fd) (T : Txt K mg CS CD CV) (D1 : Kn P w K mg base 1 "are_stretches" ["numbers"] (spAre K)) (D2 : Kn P w K mg base 1 "end_of" ["told"] (spEnd K)) :
    FnOk P w K mg base CX0 2 f fd ["self", "numbers"] (spAdd K CV) := by
  obtain ⟨f_are_stretches, fd_are_stretches, G_are_stretches, g_are_stretches, k_are_stretches, B_are_stretches⟩ := D1
  obtain ⟨f_end_of, fd_end_of, G_end_of, g_end_of, k_end_of, B_end_of⟩ := D2
  refine F.ok sc_Driver_add (fun vs H Q E h => ?_) (fun cdv A outer s H vs Q E hr h => ⟨_, (pss_cons (ps_if (pt_not (pt_val (pe_call G_are_stretches (hr.mono (by decide)) (by rfl) g_are_stretches k_are_stretches B_are_stretches .nil pass0 (pa_cons (pv 1) pa_nil)))) (pss_one (ps_ret (pe_lst (pa_cons (pe_k rfl T.c_NOT_ALLOWED) pa_nil)))) pss_nil)
      (pss_cons (ps_if (pt_cmpR op_gt (pe_op op_add (pe_callB call_len_seq (by rfl) T.b_len (by decide +kernel) (pa_cons (pe_fld (pv 0) rfl) pa_nil)) (pe_op op_fdiv (pe_callB call_len_seq (by rfl) T.b_len (by decide +kernel) (pa_cons (pv 1) pa_nil)) pe_int)) (pe_k rfl T.c_MOST_TOLD) (nomark _)) (pss_one (ps_ret (pe_lst (pa_cons (pe_k rfl T.c_TOO_MANY) pa_nil)))) pss_nil)
      (pss_cons (ps_for PassesOwn.never rfl (pi_range3 (by rfl) T.b_range (pa_cons pe_int (pa_cons (pe_callB call_len_seq (by rfl) T.b_len (by decide +kernel) (pa_cons (pv 1) pa_nil)) (pa_cons pe_int pa_nil)))) (pg_name (i := 2) sc_Driver_add.nd rfl (Or.inl rfl)) (pss_one (ps_expr (pe_bm PySem.F.plainAttrs_list PySem.F.slot_list_append PySem.F.type_list_append mt_append (pe_fld (pv 0) rfl) (pa_cons (pe_tup (pa_cons (pe_ix ix_list (pv 1) (pv 2) (fun _ _ => rfl)) (pa_cons (pe_ix ix_list (pv 1) (pe_op op_add (pv 2) pe_int) (fun _ _ => rfl)) pa_nil))) pa_nil)))))
      (pss_one (ps_ret (pe_lst (pa_cons (pe_call G_end_of (hr.mono (by decide)) (by rfl) g_end_of k_end_of B_end_of .nil pass0 (pa_cons (pe_fld (pv 0) rfl) pa_nil)) pa_nil))))))), ?_⟩)
  · obtain ⟨a, l, n, t, ns, rfl, _⟩ := h
    rfl
  · obtain ⟨a, l, n, t, ns, rfl, hd, htl, hS, hnl, hna, hlen, k⟩ := h
    obtain ⟨⟨dx, ha⟩, hR⟩ := id hd
    have hal := hd.ne
    have hln : (ivs ns).length = ns.length := List.length_map _
    have hspec : Kg70.spec t (.add ns) = match toldOf ns with
      | none => (t, Kg70.num (-1))
      | some r => if Kg70.MOST < t.length + r.length then (t, Kg70.num (-5)) else (t ++ r, Kg70.num (total (t ++ r) : Nat)) := rfl
    rw [hspec] at k
    refine ⟨_, rfl, n, ns, rfl, hS, by omega, _, rfl, ?_⟩
    cases ho : toldOf ns with
    | none =>
      rw [ho] at k
      refine if_true_of rfl ?_
      exact ⟨(by show 1 ≤ sizeLine; decide), fun p np => k _ l p (done_same hd (same_next (Same.refl H) np) np upd_same)⟩
    | some r =>
      rw [ho] at k
      dsimp only at k
      have hrl := toldOf_len ns r ho
      refine if_false_of rfl ?_
      obtain ⟨ps, el, tl⟩ := id hR
      have hll : (ps.map V.ref).length = t.length := by rw [List.length_map, tl.len, List.length_map]
      refine ⟨_, rfl, a, CV, dx, _, _, rfl, ha, T.cl_Driver, T.n_Driver_told, drvF_told l, l, _, rfl, .inl (SqL.of el), _, rfl, n, _, rfl, .inl hS, _, _, rfl, rfl, ⟨by decide, by decide⟩, _, _, rfl, rfl, _, _, rfl, rfl, _, rfl, ?_⟩
      rw [hln, hll]
      refine if_dec (fun c => ?_) (fun c => ?_)
      · have c' : Kg70.MOST < t.length + r.length := by
          show 400 < _
          omega
        rw [if_pos c'] at k
        exact ⟨(by show 1 ≤ sizeLine; decide), fun p np => k _ l p (done_same hd (same_next (Same.refl H) np) np upd_same)⟩
      · have c' : ¬ Kg70.MOST < t.length + r.length := by
          show ¬ 400 < _
          omega
        rw [if_neg c'] at k
        have hr2 : RgC 0 ((ivs ns).length : Int) 2 r.length := by
          rw [hln, hrl]
          exact rgc2 (by omega)
        refine ⟨_, rfl, n, _, rfl, .inl hS, 0, _, 2, r.length, rfl, hr2, for_rangeC (lo := 0) (c := 2) (n := r.length) (fun i σ H' => ∃ v2, σ = [some (.ref a), some (.ref n), v2] ∧ RowsW H' l ((t ++ r.take i).map tr) ∧ But l H H') ⟨_, rfl, by rw [List.take_zero, List.append_nil]; exact hR, but_refl l H⟩ ?_ ?_⟩
        · rintro i σ H' hi ⟨v2, rfl, hR', b⟩
          have hx : r[i]? = some r[i] := List.getElem?_eq_getElem hi
          obtain ⟨g1, g2⟩ := toldOf_get ns r i _ ho hx
          have ha' : H' a = some (.ins CV dx (drvF l)) := b _ _ ha hal
          have hS' : SqL K H' n (ivs ns) := seq_but hS hnl b
          have ei : (0 : Int) + (i : Int) * 2 = ((2 * i : Nat) : Int) := by omega
          have ei2 : (0 : Int) + (i : Int) * 2 + 1 = ((2 * i + 1 : Nat) : Int) := by omega
          have gx : (ivs ns)[2 * i]? = some (.int (r[i].1 : Int)) := by rw [List.getElem?_map, g1]; rfl
          have gy : (ivs ns)[2 * i + 1]? = some (.int (r[i].2 : Int)) := by rw [List.getElem?_map, g2]; rfl
          refine app2G (x := (r[i].1 : Int)) (y := (r[i].2 : Int)) (fun Q q => ⟨_, rfl, a, CV, dx, _, _, rfl, ha', T.cl_Driver, T.n_Driver_told, drvF_told l, q⟩) hR' (by simp only [List.length_map, List.length_append, List.length_take]; omega)
            (fun Q q => ⟨.ref n, rfl, _, rfl, n, _, _, _, rfl, rfl, hS', at_of ei gx, q⟩) (fun Q q => ⟨.ref n, rfl, _, rfl, _, _, rfl, rfl, n, _, _, _, rfl, rfl, hS', at_of ei2 gy, q⟩) fun H3 hR3 b3 => ?_
          refine ⟨_, rfl, ?_, but_trans b b3⟩
          rw [take_one hx, ← List.append_assoc, List.map_append]
          exact hR3
        · rintro σ H' ⟨v2, rfl, hR', b⟩
          rw [List.take_length] at hR'
          have ha' : H' a = some (.ins CV dx (drvF l)) := b _ _ ha hal
          have htr : (t ++ r).length ≤ 400 := by
            rw [List.length_append]
            have : ¬ 400 < t.length + r.length := c'
            omega
          refine ⟨_, rfl, a, CV, dx, _, _, rfl, ha', T.cl_Driver, T.n_Driver_told, drvF_told l, l, t ++ r, rfl, hR'.read, by omega, fun H4 s4 => ?_⟩
          refine ⟨(by show 1 ≤ sizeLine; decide), fun p np => ?_⟩
          have hd4 : DriverAt CV H4 a l (t ++ r) := ⟨⟨dx, s4 _ _ ha'⟩, hR'.same s4⟩
          have npH : H p = none := by
            cases q : H p with
            | none => rfl
            | some u =>
              by_cases e : p = l
              · obtain ⟨_, _, e4, _⟩ := hd4
                rw [e, e4] at np
                cases np
              · rw [s4 _ _ (b p u q e)] at np
                cases np
          have hpl : p ≠ l := fun q => by
            obtain ⟨_, _, e4, _⟩ := hd4
            rw [q, e4] at np
            cases np
          exact k _ l p ⟨hd4.same (same_next (Same.refl H4) np), upd_same, npH, hpl, .inl rfl, fun c u q n1 n2 => (upd_ne (ne_of_none q npH)).trans (s4 _ _ (b c u q n2))⟩
theorem cut0 (xs : List V) (k : Nat) : cutV xs none (some (k : Int)) = xs.take k := by
  unfold cutV
  rw [HT.sIx_none, HT.sIx_nat, List.drop_zero, Nat.sub_zero]
  by_cases h : k ≤ xs.length
  · rw [Nat.min_eq_left h]
  · rw [Nat.min_eq_right (by omega), List.take_of_length_le (by omega), List.take_of_length_le (by omega)]
def spDrop (C : Addr) : Sp := fun vs H Q _ => ∃ (a l : Addr) (t : Told) (n : Int), vs = [.ref a, .int n] ∧ DriverAt C H a l t ∧ t.length ≤ 400 ∧ ∀ H' l' p, Done C H H' a l l' p (Kg70.spec t (.drop n)).1 (anss (Kg70.spec t (.drop n)).2) → Q (.ref p) H'
theorem ok_Driver_drop {f : Addr} {fd : FuncData} (F : Fun K "drop" "Driver.drop" s_Driver_drop f fd) (T : Txt K mg CS CD CV) (D2 : Kn P w K mg base 1 "end_of" ["told"] (spEnd K)) :
    FnOk P w K mg base CX0 2 f fd ["self", "n"] (spDrop CV) := by
  obtain ⟨f_end_of, fd_end_of, G_end_of, g_end_of, k_end_of, B_end_of⟩ := D2
  refine F.ok sc_Driver_drop (fun vs H Q E h => ?_) (fun cdv A outer s H vs Q E hr h => ⟨_, (pss_cons (ps_if (pt_not (pt_chain op_le op_le pe_int (pv 1) (pe_callB call_len_seq (by rfl) T.b_len (by decide +kernel) (pa_cons (pe_fld (pv 0) rfl) pa_nil)))) (pss_one (ps_ret (pe_lst (pa_cons (pe_k rfl T.c_NOT_ALLOWED) pa_nil)))) pss_nil)
      (pss_cons (ps_fld (pv 0) (pe_slice sl_list (pe_fld (pv 0) rfl) po_none (po_some (pe_op op_sub (pe_callB call_len_seq (by rfl) T.b_len (by decide +kernel) (pa_cons (pe_fld (pv 0) rfl) pa_nil)) (pv 1)))) rfl)
      (pss_one (ps_ret (pe_lst (pa_cons (pe_call G_end_of (hr.mono (by decide)) (by rfl) g_end_of k_end_of B_end_of .nil pass0 (pa_cons (pe_fld (pv 0) rfl) pa_nil)) pa_nil)))))), ?_⟩)
  · obtain ⟨a, l, t, n, rfl, _⟩ := h
    rfl
  · obtain ⟨a, l, t, n, rfl, hd, htl, k⟩ := h
    obtain ⟨⟨dx, ha⟩, hR⟩ := id hd
    have hal := hd.ne
    obtain ⟨ps, el, tl⟩ := id hR
    have hll : (ps.map V.ref).length = t.length := by rw [List.length_map, tl.len, List.length_map]
    have hspec : Kg70.spec t (.drop n) = if within n 0 (t.length : Int) = false then (t, Kg70.num (-1)) else (t.take (t.length - n.toNat), Kg70.num (total (t.take (t.length - n.toNat)) : Nat)) := rfl
    rw [hspec] at k
    have no : within n 0 (t.length : Int) = false → tRet (tLst (tCons (tC (.int (-1))) tNil)) { nx := fun _ H' => Q .non H', rt := Q } [some (.ref a), some (.int n)] H := fun c => by
      rw [if_pos c] at k
      exact ⟨(by show 1 ≤ sizeLine; decide), fun p np => k _ l p (done_same hd (same_next (Same.refl H) np) np upd_same)⟩
    refine ⟨_, rfl, _, _, rfl, rfl, _, rfl, if_dec (fun c1 => ?_) (fun c1 => ?_)⟩
    · refine ⟨_, rfl, a, CV, dx, _, _, rfl, ha, T.cl_Driver, T.n_Driver_told, drvF_told l, l, _, rfl, .inl (SqL.of el), _, _, rfl, rfl, _, rfl, ?_⟩
      rw [hll]
      refine if_ndec (fun c2 => ?_) (fun c2 => ?_)
      · exact no (by cases q : within n 0 (t.length : Int) with | false => rfl | true => exact absurd ((within_iff _ _ _).mp q).2 c2)
      · have hw : ¬ within n 0 (t.length : Int) = false := by
          rw [(within_iff n 0 (t.length : Int)).mpr ⟨c1, c2⟩]
          decide
        rw [if_neg hw] at k
        have en : (t.length : Int) - n = ((t.length - n.toNat : Nat) : Int) := by omega
        refine ⟨_, rfl, a, CV, dx, _, _, rfl, ha, T.cl_Driver, T.n_Driver_told, drvF_told l, _, rfl, a, CV, dx, _, _, rfl, ha, T.cl_Driver, T.n_Driver_told, drvF_told l, l, _, rfl, .inl (SqL.of el), _, rfl, _, _, rfl, rfl, _, rfl, l, _, rfl, SqL.of el, fun l' nl => ?_⟩
        rw [hll, en, cut0]
        have hal' : a ≠ l' := fun q => by rw [← q, ha] at nl; cases nl
        refine ⟨_, rfl, a, CV, dx, _, rfl, (upd_ne hal').trans ha, T.cl_Driver, T.n_Driver_told, (by show 1 < 1000; decide), ?_⟩
        rw [drvF_put]
        generalize hk : t.length - n.toNat = m at k
        have hR2 : RowsW (upd (upd H l' (.lst ((ps.map V.ref).take m))) a (.ins CV dx (drvF l'))) l' ((t.take m).map tr) := by
          refine ⟨ps.take m, ?_, ?_⟩
          · rw [upd_ne hal'.symm, upd_same, List.map_take]
          · rw [List.map_take]
            refine (tl.take m).sub fun p xs q => ?_
            rw [upd_ne (ne_of q ha (by intro z; cases z)), upd_ne (ne_of_none q nl)]
            exact q
        refine ⟨_, rfl, a, CV, dx, _, _, rfl, upd_same, T.cl_Driver, T.n_Driver_told, drvF_told l', l', t.take m, rfl, hR2.read, by rw [List.length_take]; omega, fun H4 s4 => ?_⟩
        refine ⟨(by show 1 ≤ sizeLine; decide), fun p np => ?_⟩
        have hd4 : DriverAt CV H4 a l' (t.take m) := ⟨⟨dx, s4 _ _ upd_same⟩, hR2.same s4⟩
        have old : ∀ c u, H c = some u → c ≠ a → H4 c = some u := fun c u q n1 => s4 _ _ (by rw [upd_ne n1, upd_ne (ne_of_none q nl)]; exact q)
        have hpl : p ≠ l' := fun q => by
          obtain ⟨_, _, e4, _⟩ := hd4
          rw [q, e4] at np
          cases np
        have npH : H p = none := by
          cases q : H p with
          | none => rfl
          | some u =>
            by_cases e : p = a
            · obtain ⟨⟨_, e4⟩, _⟩ := hd4
              rw [e, e4] at np
              cases np
            · rw [old p u q e] at np
              cases np
        exact k _ l' p ⟨hd4.same (same_next (Same.refl H4) np), upd_same, npH, hpl, .inr nl, fun c u q n1 _ => (upd_ne (ne_of_none q npH)).trans (old c u q n1)⟩
    · refine ⟨_, rfl, if_true_of rfl ?_⟩
      exact no (by cases q : within n 0 (t.length : Int) with | false => rfl | true => exact absurd ((within_iff _ _ _).mp q).1 c1)
def outs (l : List Broken) : List Int := Kg70.whole (l.flatMap fun b => [b.rule, b.at_, b.minutes])
theorem outs_snoc (l : List Broken) (b : Broken) : outs (l ++ [b]) = outs l ++ [(b.rule : Int), (b.at_ : Int), (b.minutes : Int)] := by
  unfold outs Kg70.whole
  rw [List.flatMap_append, List.map_append]
  rfl
theorem outs_len : ∀ l : List Broken, (outs l).length = 3 * l.length
  | [] => rfl
  | b :: l => by
    have ih := outs_len l
    unfold outs Kg70.whole at ih ⊢
    rw [List.flatMap_cons, List.map_append, List.length_append, ih]
    simp only [List.length_map, List.length_cons, List.length_nil]
    omega
def spReport (C : Addr) : Sp := fun vs H Q _ => ∃ (a l : Addr) (t : Told), vs = [.ref a] ∧ DriverAt C H a l t ∧ t.length ≤ 400 ∧ ToldOk t ∧ ∀ H' l' p, Done C H H' a l l' p (Kg70.spec t .report).1 (anss (Kg70.spec t .report).2) → Q (.ref p) H'
theorem report_len (t : Told) (h1 : t.length ≤ 400) (h2 : ToldOk t) : (Kg70.report t).length ≤ 30000 := by
  have hp : (Kg70.report t).length ≤ (allBroken t).length := by
    cases e : Kg70.firstWork (line t) with
    | none => rw [report_none t e]; exact Nat.zero_le _
    | some w =>
      have := (sorted_perm (Kg70.breaks Kg70.fresh (line t) ++ (Kg70.perDay (total t) (0, 0) 0 (days none (line t)) ++ (sixDays (total t) w ((Kg70.weekly (line t)).filter fun r => decide (w < r.from_)) ++ (twoShort (total t) false ((Kg70.weekly (line t)).filter fun r => decide (w < r.from_)) ++
        (Kg70.debts (total t) [] ((line t).filter fun r => decide (w < r.from_)) ++ Kg70.weeks (line t) (total t))))))).length_eq
      rw [report_some t w e, this, ← (allBroken_perm t w e).length_eq]
      exact Nat.le_refl _
  have hll := len_line t
  have htl := total_le t h2
  have hW : Kg70.WEEK = 10080 := rfl
  have hdl := len_days (line t) none
  simp only [Option.isSome_none, Bool.false_eq_true, if_false, Nat.add_zero] at hdl
  have q1 := len_spells (line t) Kg70.fresh
  have l1 : (missed (line t)).length ≤ (spells Kg70.fresh (line t)).length := by
    unfold missed
    generalize spells Kg70.fresh (line t) = rs
    induction rs with
    | nil => simp
    | cons r rs ih =>
      rw [List.flatMap_cons, List.length_append, List.length_cons]
      have : r.ends.length ≤ 1 := by unfold Kg70.Run.ends; split <;> simp
      omega
  have l2 := len_two (days none (line t)) (0, 0)
  have l3 := len_three (total t) (days none (line t))
  have l4 := len_four (total t) (days none (line t)) 0
  have lw := Nat.le_trans (@weeklyOf_len (line t)) hll
  have l5 : (late (total t) (line t)).length ≤ 1001 := by
    unfold late
    split
    · simp
    · have := len_sixDays (total t) (weeklyOf (line t)) ‹_›
      omega
  have l6 : (twice (total t) (line t)).length ≤ 1000 := by
    have := len_twoShort (total t) (weeklyOf (line t)) false
    unfold twice
    omega
  have l7 : (unpaid (total t) (line t)).length ≤ 1000 := by
    have h1 := len_dues (total t) (owed (total t) [] (restsOf (line t)))
    have h2 := len_owed (total t) (restsOf (line t)) []
    have h3 := @restsOf_len (line t)
    unfold unpaid
    simp only [List.length_nil] at h2
    omega
  have l8 : (overWeeks (total t) (line t)).length ≤ 20000 := by
    have h1 := len_weekRows (byWeek (line t) (total t)) 0 0
    rw [byWeek_len] at h1
    have h2 : nWeeks (total t) ≤ 10000 := by simp only [nWeeks, hW]; omega
    unfold overWeeks
    omega
  have : (allBroken t).length ≤ 30000 := by
    unfold allBroken
    simp only [List.length_append]
    omega
  omega
theorem ok_Driver_report {f : Addr} {fd : FuncData} (F : Fun K "report" "Driver.report" s_Driver_report f fd) (T : Txt K mg CS CD CV) (D1 : Kn P w K mg base 5 "all_broken" ["told"] (spAll K)) :
    FnOk P w K mg base CX0 6 f fd ["self"] (spReport CV) := by
  obtain ⟨f_all_broken, fd_all_broken, G_all_broken, g_all_broken, k_all_broken, B_all_broken⟩ := D1
  refine F.ok sc_Driver_report (fun vs H Q E h => ?_) (fun cdv A outer s H vs Q E hr h => ⟨_, (pss_cons (ps_set (i := 1) sc_Driver_report.nd rfl (Or.inl rfl) (pe_call G_all_broken (hr.mono (by decide)) (by rfl) g_all_broken k_all_broken B_all_broken .nil pass0 (pa_cons (pe_fld (pv 0) rfl) pa_nil)))
      (pss_cons (ps_set (i := 2) sc_Driver_report.nd rfl (Or.inl rfl) (pe_lst (pa_cons (pe_callB call_len_seq (by rfl) T.b_len (by decide +kernel) (pa_cons (pv 1) pa_nil)) pa_nil)))
      (pss_cons (ps_for PassesOwn.never rfl (pi_list (pv 1)) (pg_tup rfl (pgs_cons (pg_name (i := 3) sc_Driver_report.nd rfl (Or.inl rfl)) (pgs_cons (pg_name (i := 4) sc_Driver_report.nd rfl (Or.inl rfl)) (pgs_cons (pg_name (i := 5) sc_Driver_report.nd rfl (Or.inl rfl)) pgs_nil)))) (pss_one (ps_expr (pe_bm PySem.F.plainAttrs_list PySem.F.slot_list_extend PySem.F.type_list_extend mt_extend (pv 2) (pa_cons (pe_lst (pa_cons (pv 4) (pa_cons (pv 3) (pa_cons (pv 5) pa_nil)))) pa_nil)))))
      (pss_one (ps_ret (pv 2)))))), ?_⟩)
  · obtain ⟨a, l, t, rfl, _⟩ := h
    rfl
  · obtain ⟨a, l, t, rfl, hd, htl, hok, k⟩ := h
    obtain ⟨⟨dx, ha⟩, hR⟩ := id hd
    refine ⟨_, rfl, a, CV, dx, _, _, rfl, ha, T.cl_Driver, T.n_Driver_told, drvF_told l, l, t, rfl, hR.read, htl, hok, fun H1 p1 n1 => ?_⟩
    have hrl := report_len t htl hok
    generalize hrep : Kg70.report t = bs at n1 hrl
    obtain ⟨ps, e1, t1⟩ := n1.rows
    have hS1 : SqL K H1 p1 (ps.map V.ref) := SqL.of e1
    refine ⟨_, rfl, p1, _, rfl, .inl hS1, (by show 1 ≤ sizeLine; decide), fun o no => ?_⟩
    have hlp : (ps.map V.ref).length = bs.length := by rw [List.length_map, t1.len, List.length_map]
    have hpo : p1 ≠ o := fun q => by rw [← q, e1] at no; cases no
    have s1 : Same H (upd H1 o (.lst [.int ((ps.map V.ref).length : Nat)])) := same_next n1.same no
    have noH := same_back n1.same no
    refine ⟨_, rfl, p1, rfl, ⟨_, (same_next (Same.refl H1) no).seq hS1⟩, for_list (K := K) (a := p1) (xs := ps.map V.ref) (fun i σ H' => ∃ (v3 v4 v5 : Option V), σ = [some (.ref a), some (.ref p1), some (.ref o), v3, v4, v5] ∧ But o H1 H' ∧ H' o = some (.lst (ivs ((bs.length : Int) :: outs (bs.take i)))))
      ⟨_, _, _, rfl, (fun b u q n => (upd_ne n).trans q), ?_⟩ (fun i σ H' _ ⟨_, _, _, _, b, _⟩ => seq_but hS1 hpo b) ?_ ?_⟩
    · rw [upd_same, hlp]
      rfl
    · rintro i v σ H' hi ⟨v3, v4, v5, rfl, b, ho⟩
      obtain ⟨p, y, rfl, hy, hp⟩ := t1.item hi
      have hpo2 : p ≠ o := fun q => by rw [q] at hp; rw [hp] at no; cases no
      have hp' : H' p = some (.tup (ivs (br y))) := b _ _ hp hpo2
      refine ⟨p, _, rfl, SqT.of hp', rfl, _, _, rfl, _, _, rfl, _, _, rfl, rfl, ?_⟩
      refine ⟨_, rfl, .inl ⟨rfl, _, SqL.of ho⟩, _, rfl, _, rfl, _, rfl, (by show 3 ≤ sizeLine; decide), fun q nq => ?_⟩
      have hqo : o ≠ q := fun z => by rw [← z, ho] at nq; cases nq
      refine ⟨o, q, _, _, rfl, rfl, (upd_ne hqo).trans ho, upd_same, ?_, ?_⟩
      · have h1 := outs_len (bs.take i)
        rw [List.length_take] at h1
        simp only [List.length_map, List.length_cons, List.length_nil]
        exact szle (by omega)
      · refine ⟨_, _, _, rfl, fun c u z n => ?_, ?_⟩
        · have := b c u z n
          rw [upd_ne n, upd_ne (ne_of_none this nq)]
          exact this
        · rw [upd_same, take_one hy, outs_snoc]
          simp only [ivs, List.map_cons, List.map_append, List.map_nil, List.cons_append]
    · rintro σ H' ⟨v3, v4, v5, rfl, b, ho⟩
      rw [hlp, List.take_length] at ho
      have sH : Same H H' := but_same n1.same noH b
      refine ⟨_, rfl, k _ l o (done_same hd sH noH ?_)⟩
      rw [ho]
      show _ = some (HO.lst (ivs (((Kg70.report t).length : Int) :: outs (Kg70.report t))))
      rw [hrep]
end
end Dh

end
section
set_option Elab.async false
set_option maxRecDepth 100000
set_option maxHeartbeats 4000000
namespace Dh
open PySem PySem.Spec PyProof.Rows L2
open Kg70 (Stretch Told line total Broken Day Debt sixDays twoShort inWeek days toldOf within)
theorem toldOk_take {t : Told} (h : ToldOk t) (n : Nat) : ToldOk (t.take n) := fun x m => h x (List.mem_of_mem_take m)
theorem step_ok (t : Told) (c : List (List Int)) (h1 : ToldOk t) (h2 : t.length ≤ 400) : ToldOk (stepT t c) ∧ (stepT t c).length ≤ 400 := by
  unfold stepT Kg70Neutral.step Kg70Neutral.callOf
  split
  · rename_i k hk
    split at hk
    all_goals cases hk
    · exact ⟨fun x m => (by cases m), Nat.zero_le _⟩
    · rename_i ns
      show ToldOk (match toldOf ns with
        | none => (t, Kg70.num (-1))
        | some r => if Kg70.MOST < t.length + r.length then (t, Kg70.num (-5)) else (t ++ r, Kg70.num (total (t ++ r) : Nat))).1 ∧ _
      show _ ∧ (match toldOf ns with
        | none => (t, Kg70.num (-1))
        | some r => if Kg70.MOST < t.length + r.length then (t, Kg70.num (-5)) else (t ++ r, Kg70.num (total (t ++ r) : Nat))).1.length ≤ 400
      cases ho : toldOf ns with
      | none => exact ⟨h1, h2⟩
      | some r =>
        dsimp only
        by_cases c : Kg70.MOST < t.length + r.length
        · rw [if_pos c]
          exact ⟨h1, h2⟩
        · rw [if_neg c]
          refine ⟨fun x m => ?_, ?_⟩
          · rcases List.mem_append.mp m with m | m
            · exact h1 x m
            · exact toldOf_ok ns r ho x m
          · show (t ++ r).length ≤ 400
            rw [List.length_append]
            have : ¬ 400 < t.length + r.length := c
            omega
    · rename_i n
      show ToldOk (if within n 0 (t.length : Int) = false then (t, Kg70.num (-1)) else (t.take (t.length - n.toNat), Kg70.num (total (t.take (t.length - n.toNat)) : Nat))).1 ∧ (if within n 0 (t.length : Int) = false then (t, Kg70.num (-1)) else (t.take (t.length - n.toNat), Kg70.num (total (t.take (t.length - n.toNat)) : Nat))).1.length ≤ 400
      split
      · exact ⟨h1, h2⟩
      · refine ⟨toldOk_take h1 _, ?_⟩
        show (t.take _).length ≤ 400
        rw [List.length_take]
        omega
    · exact ⟨h1, h2⟩
    · exact ⟨h1, h2⟩
    · exact ⟨h1, h2⟩
    · rename_i k
      show ToldOk (if within k 0 1000 = false then (t, Kg70.num (-1)) else (t, Kg70.num (inWeek (line t) k.toNat : Nat))).1 ∧ (if within k 0 1000 = false then (t, Kg70.num (-1)) else (t, Kg70.num (inWeek (line t) k.toNat : Nat))).1.length ≤ 400
      split
      · exact ⟨h1, h2⟩
      · exact ⟨h1, h2⟩
  · exact ⟨h1, h2⟩
theorem after_ok : ∀ (cs : List (List (List Int))) (t : Told), ToldOk t → t.length ≤ 400 → ToldOk (after t cs) ∧ (after t cs).length ≤ 400
  | [], t, h1, h2 => ⟨h1, h2⟩
  | c :: cs, t, h1, h2 => by
    have := step_ok t c h1 h2
    exact after_ok cs (stepT t c) this.1 this.2
theorem cut2 (xs : List V) (i k : Nat) (h : i + k ≤ xs.length) : cutV xs (some (i : Int)) (some ((i + k : Nat) : Int)) = (xs.drop i).take k := by
  unfold cutV
  rw [HT.sIx_nat, HT.sIx_nat, Nat.min_eq_left h, Nat.min_eq_left (show i ≤ xs.length by omega)]
  congr 1
  omega
section
variable {P : Program} {w : World} {K : PySem.W.Frag} {mg : Str → Option Value} {base : Heap} {CS CD CV : Addr}
def spLen (K : PySem.W.Frag) : Sp := fun vs H Q _ => ∃ (a : Addr) (l : List Int) (i : Nat) (c : List (List Int)) (r : List Int), vs = [.ref a, .int i] ∧ SqL K H a (ivs l) ∧ l.drop i = flat c ++ r ∧ Kg70Neutral.asked1 c = true ∧ Q (.int ((flat c).length : Nat)) H
def spAnswer (K : PySem.W.Frag) (C : Addr) : Sp := fun vs H Q _ => ∃ (a l n : Addr) (t : Told) (c : List (List Int)), vs = [.ref a, .ref n] ∧ DriverAt C H a l t ∧ t.length ≤ 400 ∧ ToldOk t ∧ SqL K H n (ivs (flat c)) ∧ Kg70Neutral.asked1 c = true ∧ n ≠ l ∧ n ≠ a ∧
  ∀ H' l' p, Done C H H' a l l' p (stepT t c) (Kg70Neutral.step t c).2 → Q (.ref p) H'
def spAnswers (K : PySem.W.Frag) : Sp := fun vs H Q _ => ∃ (a : Addr) (l : List Int), vs = [.ref a] ∧ SqL K H a (ivs l) ∧ l.length ≤ 30000 ∧ PyKg70.answers_asked l = true ∧ ∀ (H' : Hp) (p : Addr), H' p = some (.lst (ivs (PyKg70.answers l))) → Q (.ref p) H'
theorem ok_answers {f : Addr} {fd : FuncData} (F : Fun K "answers" "answers" s_answers f fd) (T : Txt K mg CS CD CV) (D1 : Ki P w K mg base CV 1 ["self"] (spDrvInit CV))
    (D2 : Kn P w K mg base 1 "length_of_call" ["calls", "at"] (spLen K)) (D3 : Kn P w K mg base 7 "answer" ["driver", "call"] (spAnswer K CV)) :
    FnOk P w K mg base CX0 8 f fd ["calls"] (spAnswers K) := by
  obtain ⟨f_Driver_init, fd_Driver_init, G_Driver_init, M_Driver, B_Driver_init⟩ := D1
  obtain ⟨f_length_of_call, fd_length_of_call, G_length_of_call, g_length_of_call, k_length_of_call, B_length_of_call⟩ := D2
  obtain ⟨f_answer, fd_answer, G_answer, g_answer, k_answer, B_answer⟩ := D3
  refine F.ok sc_answers (fun vs H Q E h => ?_) (fun cdv A outer s H vs Q E hr h => ⟨_, (pss_cons (ps_set (i := 1) sc_answers.nd rfl (Or.inl rfl) (pe_make0 M_Driver G_Driver_init (hr.mono (by decide)) rfl T.g_Driver B_Driver_init .nil pass0))
      (pss_cons (ps_set (i := 2) sc_answers.nd rfl (Or.inl rfl) (pe_lst pa_nil))
      (pss_cons (ps_set (i := 3) sc_answers.nd rfl (Or.inl rfl) pe_int)
      (pss_cons (ps_while PassesOwn.never (pt_cmpR op_lt (pv 3) (pe_callB call_len_seq (by rfl) T.b_len (by decide +kernel) (pa_cons (pv 0) pa_nil)) (nomark _)) (pss_cons (ps_set (i := 4) sc_answers.nd rfl (Or.inl rfl) (pe_call G_length_of_call (hr.mono (by decide)) (by rfl) g_length_of_call k_length_of_call B_length_of_call .nil pass0 (pa_cons (pv 0) (pa_cons (pv 3) pa_nil))))
      (pss_cons (ps_set (i := 5) sc_answers.nd rfl (Or.inl rfl) (pe_call G_answer (hr.mono (by decide)) (by rfl) g_answer k_answer B_answer .nil pass0 (pa_cons (pv 1) (pa_cons (pe_slice sl_list (pv 0) (po_some (pv 3)) (po_some (pe_op op_add (pv 3) (pv 4)))) pa_nil))))
      (pss_cons (ps_expr (pe_bm PySem.F.plainAttrs_list PySem.F.slot_list_append PySem.F.type_list_append mt_append (pv 2) (pa_cons (pe_callB call_len_seq (by rfl) T.b_len (by decide +kernel) (pa_cons (pv 5) pa_nil)) pa_nil)))
      (pss_cons (ps_expr (pe_bm PySem.F.plainAttrs_list PySem.F.slot_list_extend PySem.F.type_list_extend mt_extend (pv 2) (pa_cons (pv 5) pa_nil)))
      (pss_one (ps_aug (i := 3) sc_answers.nd rfl (Or.inl rfl) (pv 4) ip_add)))))))
      (pss_one (ps_ret (pv 2))))))), ?_⟩)
  · obtain ⟨a, l, rfl, _⟩ := h
    rfl
  · obtain ⟨a, l, rfl, hS, hlen, hask, k⟩ := h
    obtain ⟨cs, hcs, hall, hc60, hans, hmax⟩ := asked_calls l hask
    intro x dx nx nd ne
    refine ⟨x, dx, rfl, upd_same, fun H1 l1 J nl1 kp => ⟨rfl, ?_⟩⟩
    have s1 : Same H H1 := made_same nx nd kp
    have nl1H : H l1 = none := by
      cases q : H l1 with
      | none => rfl
      | some u =>
        have h1 : (upd (upd H dx (.own x)) x (.ins CV dx [])) l1 = some u := by
          rw [upd_ne (ne_of_none q nx), upd_ne (ne_of_none q nd)]
          exact q
        rw [h1] at nl1
        cases nl1
    refine ⟨Nat.zero_le _, fun o no => ?_⟩
    have noH : H o = none := same_back s1 no
    have hol1 : o ≠ l1 := fun q => by
      obtain ⟨_, ps, e, _⟩ := J
      rw [q, e] at no
      cases no
    have hox : o ≠ x := fun q => by
      obtain ⟨⟨dj, hj⟩, _⟩ := J
      rw [q, hj] at no
      cases no
    refine ⟨fun m σ H' => ∃ (done rest : List (List (List Int))) (l' : Addr) (v4 v5 : Option V), σ = [some (.ref a), some (.ref x), some (.ref o), some (.int ((done.flatMap flat).length : Nat)), v4, v5] ∧ m = rest.length ∧ cs = done ++ rest ∧ Same H H' ∧ H l' = none ∧ o ≠ l' ∧ DriverAt CV H' x l' (after Kg70Neutral.start done) ∧ H' o = some (.lst (ivs (PyFlat.told (PyFlat.played Kg70Neutral.step Kg70Neutral.start done)))),
      ⟨_, [], cs, l1, _, _, rfl, rfl, rfl, same_next s1 no, nl1H, hol1, J.same (same_next (Same.refl H1) no), upd_same⟩, ?_⟩
    rintro m σ H' ⟨done, rest, l', v4, v5, rfl, rfl, hcd, sm, nl', hol', hd, ho⟩
    have hl : l = done.flatMap flat ++ rest.flatMap flat := by rw [hcs, hcd, List.flatMap_append]
    have hS' : SqL K H' a (ivs l) := sm.seq hS
    have hlv : (ivs l).length = l.length := List.length_map _
    refine ⟨_, rfl, .ref a, rfl, a, _, rfl, .inl hS', _, _, rfl, rfl, _, rfl, ?_⟩
    rw [hlv]
    cases rest with
    | nil =>
      have hle : ¬ (((done.flatMap flat).length : Nat) : Int) < (l.length : Int) := by
        rw [hl]
        simp
      refine if_false_of (decide_eq_false hle) ⟨_, rfl, k H' o ?_⟩
      rw [List.append_nil] at hcd
      rw [hans, hcd]
      exact ho
    | cons c rest =>
      have hc : Kg70Neutral.asked1 c = true := hall c (by rw [hcd]; simp)
      have hp := flat_pos c hc
      have hll : l.length = (done.flatMap flat).length + (flat c).length + (rest.flatMap flat).length := by
        rw [hl, List.length_append, List.flatMap_cons, List.length_append]
        omega
      have hdr : l.drop (done.flatMap flat).length = flat c ++ rest.flatMap flat := by
        rw [hl, List.drop_left, List.flatMap_cons]
      generalize hi : (done.flatMap flat).length = i at hll hdr
      refine if_true_of (decide_eq_true (by omega)) ?_
      refine ⟨fun σ' H' => ∃ m', m' < (c :: rest).length ∧ ∃ (done rest : List (List (List Int))) (l' : Addr) (v4 v5 : Option V), σ' = [some (.ref a), some (.ref x), some (.ref o), some (.int ((done.flatMap flat).length : Nat)), v4, v5] ∧ m' = rest.length ∧ cs = done ++ rest ∧ Same H H' ∧ H l' = none ∧ o ≠ l' ∧ DriverAt CV H' x l' (after Kg70Neutral.start done) ∧ H' o = some (.lst (ivs (PyFlat.told (PyFlat.played Kg70Neutral.step Kg70Neutral.start done)))), fun σ' H' h => h, ?_⟩
      have hok := after_ok done Kg70Neutral.start (fun x m => by cases m) (Nat.zero_le _)
      have hsl : (ivs l).drop i = ivs (flat c) ++ ivs (rest.flatMap flat) := by
        rw [← List.map_drop, hdr, List.map_append]
      refine ⟨_, rfl, _, rfl, a, l, i, c, _, rfl, hS', hdr, hc, ?_⟩
      refine ⟨_, rfl, _, rfl, _, rfl, _, rfl, _, rfl, _, rfl, _, _, rfl, rfl, _, rfl, a, _, rfl, hS', fun n nn => ?_⟩
      have ecut : cutV (ivs l) (some (i : Int)) (some ((i : Int) + ((flat c).length : Int))) = ivs (flat c) := by
        have e1 : (i : Int) + ((flat c).length : Int) = ((i + (flat c).length : Nat) : Int) := by omega
        rw [e1, cut2 _ _ _ (by rw [hlv]; omega), hsl]
        have e2 : (flat c).length = (ivs (flat c)).length := (List.length_map _).symm
        rw [e2, List.take_left]
      rw [ecut]
      obtain ⟨⟨dj, hj⟩, ps, hj2, _⟩ := id hd
      have hnl : n ≠ l' := fun q => by rw [q, hj2] at nn; cases nn
      have hnx : n ≠ x := fun q => by rw [q, hj] at nn; cases nn
      have hno : o ≠ n := fun q => by rw [← q, ho] at nn; cases nn
      have sn : Same H' (upd H' n (.lst (ivs (flat c)))) := same_next (Same.refl H') nn
      refine ⟨x, l', n, after Kg70Neutral.start done, c, rfl, hd.same sn, hok.2, hok.1, SqL.of upd_same, hc, hnl, hnx, fun H2 l2 p dn => ?_⟩
      have xH : H x = none := nx
      have ho2 : H2 o = some (.lst (ivs (PyFlat.told (PyFlat.played Kg70Neutral.step Kg70Neutral.start done)))) := dn.keep _ _ ((upd_ne hno).trans ho) hox hol'
      have hpo : o ≠ p := fun q => by
        have := dn.new
        rw [← q, upd_ne hno, ho] at this
        cases this
      have sH2 : Same H H2 := fun b u q => dn.keep b u ((upd_ne (ne_of_none (sm b u q) nn)).trans (sm b u q)) (ne_of_none q xH) (ne_of_none q nl')
      have nl2 : H l2 = none := by
        rcases dn.told with e | e
        · rw [e]
          exact nl'
        · exact same_back (sm.trans sn) e
      have hol2 : o ≠ l2 := by
        rcases dn.told with e | e
        · rw [e]
          exact hol'
        · intro q
          rw [← q, upd_ne hno, ho] at e
          cases e
      have hlong : (PyFlat.told (PyFlat.played Kg70Neutral.step Kg70Neutral.start done)).length + 1 + (Kg70Neutral.step (after Kg70Neutral.start done) c).2.length ≤ 10000000 := by
        have h1 := hmax
        have e : done ++ c :: rest = (done ++ [c]) ++ rest := by simp
        rw [hans, hcd, e, played_app Kg70Neutral.start, told_app, told_snoc, List.length_append, List.length_append, List.length_cons] at h1
        omega
      have hz : 10000000 < sizeLine := by decide
      refine ⟨_, rfl, .inl ⟨rfl, _, SqL.of ho2⟩, .ref p, rfl, p, _, rfl, .inl (SqL.of dn.res), o, _, _, rfl, rfl, ho2, ?_, ?_⟩
      · rw [List.length_map]
        omega
      have hp3 : ∀ u, (upd H2 o u) p = some (.lst (ivs (Kg70Neutral.step (after Kg70Neutral.start done) c).2)) := fun u => (upd_ne hpo.symm).trans dn.res
      refine ⟨_, rfl, .inl ⟨rfl, _, SqL.of upd_same⟩, .ref p, rfl, o, p, _, _, rfl, rfl, upd_same, hp3 _, ?_, ?_⟩
      · simp only [List.length_append, List.length_map, List.length_cons, List.length_nil]
        omega
      refine ⟨_, rfl, _, rfl, _, _, rfl, rfl, ?_⟩
      refine ⟨rest.length, by simp, done ++ [c], rest, l2, some (.int ((flat c).length : Nat)), some (.ref p), ?_, rfl, by rw [hcd]; simp, ?_, nl2, hol2, ?_, ?_⟩
      · have e : ((done ++ [c]).flatMap flat).length = i + (flat c).length := by
          rw [List.flatMap_append, List.length_append, hi]
          simp
        rw [e]
        rfl
      · exact same_new (same_new sH2 noH) noH
      · rw [after_snoc]
        obtain ⟨⟨dk, hk⟩, qs, e1, e2⟩ := dn.drv
        refine ⟨⟨dk, ?_⟩, qs, ?_, ?_⟩
        · rw [upd_ne hox.symm, upd_ne hox.symm]
          exact hk
        · rw [upd_ne hol2.symm, upd_ne hol2.symm]
          exact e1
        · refine e2.sub fun q xs h => ?_
          rw [upd_ne (lst_ne_tup ho2 h), upd_ne (lst_ne_tup ho2 h)]
          exact h
      · rw [upd_same, told_snoc]
        simp only [ivs, List.map_append, List.map_cons, List.append_assoc, List.length_map, List.singleton_append]
end
end Dh

end
section
set_option Elab.async false
set_option maxRecDepth 100000
set_option maxHeartbeats 4000000
namespace Dh
open PySem PySem.Spec PyProof.Rows L2
open Kg70 (Stretch Told line total Broken Day Debt sixDays twoShort inWeek days toldOf within)
/-! ### stage 2: now, days, week -/
/-- a new list of numbers that a def gives -/
structure NewInts (H H' : Hp) (p : Addr) (zs : List Int) : Prop where
  same : Same H H'
  new : H p = none
  arr : H' p = some (.lst (ivs zs))
theorem Objs.last {α : Type} {At : Hp → Addr → α → Prop} {H : Hp} : ∀ {rs : List α} {ps : List Addr} {r : α}, Objs At H ps (rs ++ [r]) → ∃ qs p, ps = qs ++ [p] ∧ Objs At H qs rs ∧ At H p r
  | [], [p], _, h => ⟨[], p, rfl, trivial, h.1⟩
  | [], p :: q :: l, _, h => h.2.elim
  | [], [], _, h => h.elim
  | _ :: _, [], _, h => h.elim
  | x :: rs, p :: ps, r, h => by
    obtain ⟨qs, q, e, k1, k2⟩ := Objs.last (rs := rs) (ps := ps) (r := r) h.2
    exact ⟨p :: qs, q, by rw [e]; rfl, ⟨h.1, k1⟩, k2⟩
theorem last_is {α : Type} {l : List α} {x : α} (h : l.getLast? = some x) : ∃ l', l = l' ++ [x] := by
  rcases List.eq_nil_or_concat l with e | ⟨l', y, e⟩
  · rw [e] at h
    cases h
  · rw [e, List.concat_eq_append, List.getLast?_append] at h
    simp at h
    exact ⟨l', by rw [e, h, List.concat_eq_append]⟩
theorem no_eq {m n : Int} [d : Decidable (V.int m = V.int n)] (h : ¬ m = n) : decide (V.int m = V.int n) = false := decide_eq_false fun q => h (int_eq.mp q)
theorem is_eq {m n : Int} [d : Decidable (V.int m = V.int n)] (h : m = n) : decide (V.int m = V.int n) = true := decide_eq_true (int_eq.mpr h)
/-- xs.extend(e), e a new list of numbers -/
theorem extI {K : PySem.W.Frag} {D : Ends} {u : TS} {σ : L2.St} {H : Hp} {i : Nat} {o : Addr} {zs ws : List Int} {te : TE} (hi : σ[i]? = some (some (.ref o))) (ho : H o = some (.lst (ivs zs))) (hl : zs.length + ws.length ≤ 1000000)
    (he : ∀ Q : VK, (∀ H1 q, NewInts H H1 q ws → Q (.ref q) H1) → te σ H Q) (k : ∀ H', H' o = some (.lst (ivs (zs ++ ws))) → But o H H' → u D σ H') :
    tSeq (tDrop (tBM K "list" rExtend (tVar i) (tCons te tNil))) u D σ H := by
  refine ⟨_, hi, .inl ⟨rfl, _, SqL.of ho⟩, he _ fun H1 q n => ?_⟩
  have e1 := n.same _ _ ho
  refine ⟨o, q, _, _, rfl, rfl, e1, n.arr, ?_, ?_⟩
  · rw [List.length_map, List.length_map]
    exact szle hl
  · refine k _ ?_ fun c x h ne => ?_
    · rw [upd_same, ivs, ivs, ivs, List.map_append]
    · rw [upd_ne ne]
      exact n.same _ _ h
section
variable {P : Program} {w : World} {K : PySem.W.Frag} {mg : Str → Option Value} {base : Heap} {CS CD CV : Addr}
def sinceOf (l : List Stretch) : List Int := [((Kg70.lastRun Kg70.fresh l).driven : Int), ((Kg70.truth (Kg70.lastRun Kg70.fresh l).part : Nat) : Int)]
def spSince (K : PySem.W.Frag) : Sp := fun vs H Q _ => ∃ (a : Addr) (l : List Stretch), vs = [.ref a] ∧ RowsR K H a (l.map sr) ∧ l.length ≤ 1000 ∧ (∀ s ∈ l, s.from_ < s.till) ∧
  ∀ H' p, NewInts H H' p (sinceOf l) → Q (.ref p) H'
theorem ok_since_whole_break {f : Addr} {fd : FuncData} (F : Fun K "since_whole_break" "since_whole_break" s_since_whole_break f fd) (T : Txt K mg CS CD CV) (D1 : Kn P w K mg base 3 "spells_of" ["stretches"] (spSpells K CS)) :
    FnOk P w K mg base CX0 4 f fd ["stretches"] (spSince K) := by
  obtain ⟨f_spells_of, fd_spells_of, G_spells_of, g_spells_of, k_spells_of, B_spells_of⟩ := D1
  refine F.ok sc_since_whole_break (fun vs H Q E h => ?_) (fun cdv A outer s H vs Q E hr h => ⟨_, (pss_cons (ps_set (i := 1) sc_since_whole_break.nd rfl (Or.inl rfl) (pe_ix ix_list (pe_call G_spells_of (hr.mono (by decide)) (by rfl) g_spells_of k_spells_of B_spells_of .nil pass0 (pa_cons (pv 0) pa_nil)) (pe_un un_neg pe_int) (fun _ _ => rfl)))
      (pss_one (ps_ret (pe_lst (pa_cons (pe_fld (pv 1) rfl) (pa_cons (pe_ifExp (pt_val (pe_fld (pv 1) rfl)) pe_int pe_int) pa_nil)))))), ?_⟩)
  · obtain ⟨a, l, rfl, _⟩ := h
    rfl
  · obtain ⟨a, l, rfl, hR, hlen, hft, k⟩ := h
    obtain ⟨x, hx, hxd, hxp⟩ := lastRun_spells l Kg70.fresh Kg70.fresh rfl rfl
    obtain ⟨rs, hrs⟩ := last_is hx
    refine ⟨_, rfl, a, l, rfl, hR, hlen, hft, fun H1 p1 s1 n1 hsp => ?_⟩
    obtain ⟨qs, h1, hO⟩ := hsp
    rw [hrs] at hO
    obtain ⟨qs', p, rfl, _, dj, hj⟩ := hO.last
    rw [List.map_append] at h1
    refine ⟨_, rfl, p1, _, _, _, rfl, rfl, SqL.of h1, atI_last _ _, ?_⟩
    refine ⟨_, rfl, p, CS, dj, _, _, rfl, hj, T.cl_Spell, T.n_Spell_driving, spF_driving x, _, rfl, p, CS, dj, _, _, rfl, hj, T.cl_Spell, T.n_Spell_had_first_part, spF_part x, _, rfl, ?_⟩
    unfold sinceOf at k
    rw [hxd, hxp] at k
    cases hp : x.part with
    | true =>
      rw [hp] at k
      refine if_true_of rfl ?_
      exact ⟨(by show 2 ≤ sizeLine; decide), fun o no => k _ o ⟨same_next s1 no, same_back s1 no, upd_same⟩⟩
    | false =>
      rw [hp] at k
      refine if_false_of rfl ?_
      exact ⟨(by show 2 ≤ sizeLine; decide), fun o no => k _ o ⟨same_next s1 no, same_back s1 no, upd_same⟩⟩
/-- driving in a week that may not be there -/
def weekD (l : List Stretch) (k : Int) : Nat := if 0 ≤ k then inWeek l k.toNat else 0
def spInWeek (K : PySem.W.Frag) : Sp := fun vs H Q _ => ∃ (a : Addr) (l : List Stretch) (k : Int), vs = [.ref a, .int k] ∧ RowsR K H a (l.map sr) ∧ l.length ≤ 1000 ∧ Line 0 none l ∧ endOf 0 l ≤ 100000000 ∧ ∀ H', Same H H' → Q (.int (weekD l k : Nat)) H'
theorem ok_driving_in_week {f : Addr} {fd : FuncData} (F : Fun K "driving_in_week" "driving_in_week" s_driving_in_week f fd) (T : Txt K mg CS CD CV) (D1 : Kn P w K mg base 2 "driving_by_week" ["stretches"] (spByWeek K)) :
    FnOk P w K mg base CX0 3 f fd ["stretches", "week"] (spInWeek K) := by
  obtain ⟨f_driving_by_week, fd_driving_by_week, G_driving_by_week, g_driving_by_week, k_driving_by_week, B_driving_by_week⟩ := D1
  refine F.ok sc_driving_in_week (fun vs H Q E h => ?_) (fun cdv A outer s H vs Q E hr h => ⟨_, (pss_cons (ps_set (i := 2) sc_driving_in_week.nd rfl (Or.inl rfl) (pe_call G_driving_by_week (hr.mono (by decide)) (by rfl) g_driving_by_week k_driving_by_week B_driving_by_week .nil pass0 (pa_cons (pv 0) pa_nil)))
      (pss_cons (ps_if (pt_chain op_le op_lt pe_int (pv 1) (pe_callB call_len_seq (by rfl) T.b_len (by decide +kernel) (pa_cons (pv 2) pa_nil))) (pss_one (ps_ret (pe_ix ix_list (pv 2) (pv 1) (fun _ _ => rfl)))) pss_nil)
      (pss_one (ps_ret pe_int)))), ?_⟩)
  · obtain ⟨a, l, z, rfl, _⟩ := h
    rfl
  · obtain ⟨a, l, z, rfl, hR, hlen, hLn, hE, k⟩ := h
    have hW : Kg70.WEEK = 10080 := rfl
    refine ⟨_, rfl, a, l, rfl, hR, hlen, hLn, hE, fun H1 p1 s1 n1 h1 => ?_⟩
    have hS : SqL K H1 p1 (nvs (byWeek l (endOf 0 l))) := SqL.of h1
    have hn : (nvs (byWeek l (endOf 0 l))).length = nWeeks (endOf 0 l) := by unfold nvs; rw [List.length_map, byWeek_len]
    have no : ¬ (0 ≤ z ∧ z < (nWeeks (endOf 0 l) : Nat)) → weekD l z = 0 := fun c => by
      unfold weekD
      by_cases c1 : 0 ≤ z
      · rw [if_pos c1]
        refine inWeek_late l z.toNat (endOf 0 l) (fun s m => (till_le _ _ _ hLn s m).2.2.1) ?_
        have : ¬ z < (nWeeks (endOf 0 l) : Nat) := fun q => c ⟨c1, q⟩
        simp only [nWeeks, hW] at this ⊢
        omega
      · rw [if_neg c1]
    refine ⟨_, rfl, _, _, rfl, rfl, _, rfl, if_dec (fun c1 => ?_) (fun c1 => ?_)⟩
    · refine ⟨_, rfl, p1, _, rfl, .inl hS, _, _, rfl, rfl, _, rfl, ?_⟩
      rw [hn]
      refine if_dec (fun c2 => ?_) (fun c2 => ?_)
      · have hz : z = ((z.toNat : Nat) : Int) := by omega
        have hg : (nvs (byWeek l (endOf 0 l)))[z.toNat]? = some (.int ((inWeek l z.toNat : Nat) : Int)) := by
          unfold nvs byWeek
          rw [List.getElem?_map, List.getElem?_map, List.getElem?_range (by omega)]
          rfl
        have e : weekD l z = inWeek l z.toNat := by unfold weekD; rw [if_pos c1]
        rw [e] at k
        exact ⟨_, rfl, _, rfl, p1, _, _, _, rfl, rfl, hS, at_of hz hg, k _ s1⟩
      · rw [no (fun q => c2 q.2)] at k
        exact k _ s1
    · rw [no (fun q => c1 q.1)] at k
      exact ⟨_, rfl, if_false_of rfl (k _ s1)⟩
def weekOf (l : List Stretch) (e : Nat) : List Int := [((inWeek l (e / Kg70.WEEK) : Nat) : Int), ((if 0 < e / Kg70.WEEK then inWeek l (e / Kg70.WEEK - 1) else 0 : Nat) : Int) + ((inWeek l (e / Kg70.WEEK) : Nat) : Int)]
def spWeekOn (K : PySem.W.Frag) : Sp := fun vs H Q _ => ∃ (a : Addr) (l : List Stretch) (e : Nat), vs = [.ref a, .int e] ∧ RowsR K H a (l.map sr) ∧ l.length ≤ 1000 ∧ Line 0 none l ∧ endOf 0 l ≤ 100000000 ∧ ∀ H' p, NewInts H H' p (weekOf l e) → Q (.ref p) H'
theorem ok_week_going_on {f : Addr} {fd : FuncData} (F : Fun K "week_going_on" "week_going_on" s_week_going_on f fd) (T : Txt K mg CS CD CV) (D1 : Kn P w K mg base 3 "driving_in_week" ["stretches", "week"] (spInWeek K)) :
    FnOk P w K mg base CX0 4 f fd ["stretches", "end"] (spWeekOn K) := by
  obtain ⟨f_driving_in_week, fd_driving_in_week, G_driving_in_week, g_driving_in_week, k_driving_in_week, B_driving_in_week⟩ := D1
  refine F.ok sc_week_going_on (fun vs H Q E h => ?_) (fun cdv A outer s H vs Q E hr h => ⟨_, (pss_cons (ps_set (i := 2) sc_week_going_on.nd rfl (Or.inl rfl) (pe_op op_fdiv (pv 1) (pe_k rfl T.c_WEEK_weeks)))
      (pss_cons (ps_set (i := 3) sc_week_going_on.nd rfl (Or.inl rfl) (pe_call G_driving_in_week (hr.mono (by decide)) (by rfl) g_driving_in_week k_driving_in_week B_driving_in_week .nil pass0 (pa_cons (pv 0) (pa_cons (pv 2) pa_nil))))
      (pss_one (ps_ret (pe_lst (pa_cons (pv 3) (pa_cons (pe_op op_add (pe_call G_driving_in_week (hr.mono (by decide)) (by rfl) g_driving_in_week k_driving_in_week B_driving_in_week .nil pass0 (pa_cons (pv 0) (pa_cons (pe_op op_sub (pv 2) pe_int) pa_nil))) (pv 3)) pa_nil))))))), ?_⟩)
  · obtain ⟨a, l, e, rfl, _⟩ := h
    rfl
  · obtain ⟨a, l, e, rfl, hR, hlen, hLn, hE, k⟩ := h
    refine s_set (i := 2) (v := .int ((e / 10080 : Nat) : Int)) (gvN_div gv_var (gvN_c (n := 10080)) (by omega)) ?_
    refine ⟨_, rfl, _, rfl, a, l, _, rfl, hR, hlen, hLn, hE, fun H1 s1 => ?_⟩
    refine ⟨_, rfl, _, rfl, _, rfl, _, _, rfl, rfl, a, l, _, rfl, hR.same s1, hlen, hLn, hE, fun H2 s2 => ?_⟩
    refine ⟨_, rfl, _, _, rfl, rfl, (by show 2 ≤ sizeLine; decide), fun p np => ?_⟩
    refine k _ p ⟨same_next (s1.trans s2) np, same_back (s1.trans s2) np, ?_⟩
    rw [upd_same]
    have e1 : weekD l ((e / 10080 : Nat) : Int) = inWeek l (e / 10080) := by unfold weekD; rw [if_pos (by omega), Int.toNat_natCast]
    have e2 : weekD l (((e / 10080 : Nat) : Int) - 1) = if 0 < e / 10080 then inWeek l (e / 10080 - 1) else 0 := by
      unfold weekD
      by_cases c : 0 < e / 10080
      · rw [if_pos c, if_pos (by omega)]
        congr 1
        omega
      · rw [if_neg c, if_neg (by omega)]
    rw [e1, e2]
    rfl
def dayOf (ds : List Day) : List Int := match ds.getLast? with
  | some x => if x.rest.isNone = true then [(x.from_ : Int), (x.driven : Int)] else [-1, 0]
  | none => [-1, 0]
theorem dayOf_snoc (ds : List Day) (x : Day) : dayOf (ds ++ [x]) = if x.rest.isNone = true then [(x.from_ : Int), (x.driven : Int)] else [-1, 0] := by
  unfold dayOf
  rw [List.getLast?_append]
  rfl
def spDayOn (K : PySem.W.Frag) (C : Addr) : Sp := fun vs H Q _ => ∃ (a : Addr) (ds : List Day), vs = [.ref a] ∧ DaysR K C H a ds ∧ ∀ H' p, NewInts H H' p (dayOf ds) → Q (.ref p) H'
theorem ok_day_going_on {f : Addr} {fd : FuncData} (F : Fun K "day_going_on" "day_going_on" s_day_going_on f fd) (T : Txt K mg CS CD CV) :
    FnOk P w K mg base CX0 1 f fd ["days"] (spDayOn K CD) := by
  refine F.ok sc_day_going_on (fun vs H Q E h => ?_) (fun cdv A outer s H vs Q E hr h => ⟨_, (pss_cons (ps_if (PW.pt (pw_or (pt_cmpR op_eq (pe_callB call_len_seq (by rfl) T.b_len (by decide +kernel) (pa_cons (pv 0) pa_nil)) pe_int (nomark _)) (pw_or1 (pt_val (pe_fld (pe_ix ix_list (pv 0) (pe_un un_neg pe_int) (fun _ _ => rfl)) rfl))))) (pss_one (ps_ret (pe_lst (pa_cons (pe_k rfl T.c_NO_DAY) (pa_cons pe_int pa_nil))))) pss_nil)
      (pss_cons (ps_set (i := 1) sc_day_going_on.nd rfl (Or.inl rfl) (pe_ix ix_list (pv 0) (pe_un un_neg pe_int) (fun _ _ => rfl)))
      (pss_one (ps_ret (pe_lst (pa_cons (pe_fld (pv 1) rfl) (pa_cons (pe_fld (pv 1) rfl) pa_nil))))))), ?_⟩)
  · obtain ⟨a, ds, rfl, _⟩ := h
    rfl
  · obtain ⟨a, ds, rfl, ⟨ps, hS, hO⟩, k⟩ := h
    refine ⟨.ref a, rfl, a, _, rfl, .inl hS, rfl, _, rfl, ?_⟩
    have hl : (ps.map V.ref).length = ds.length := by rw [List.length_map, hO.len]
    rw [hl]
    rcases snoc_cases ds with rfl | ⟨ds, x, rfl⟩
    · refine if_true_of (is_eq (by simp)) ?_
      refine if_true_of rfl ?_
      exact ⟨(by show 2 ≤ sizeLine; decide), fun o no => k _ o ⟨same_next (Same.refl H) no, no, upd_same⟩⟩
    · obtain ⟨qs, p, rfl, _, dj, hj⟩ := hO.last
      rw [List.map_append] at hS
      refine if_false_of (no_eq (by simp; omega)) ?_
      refine ⟨_, rfl, _, rfl, a, _, _, _, rfl, rfl, hS, atI_last _ _, p, CD, dj, _, _, rfl, hj, T.cl_Day, T.n_Day_ended, dayF_ended x, _, rfl, ?_⟩
      rw [dayOf_snoc] at k
      cases hr : x.rest with
      | some r =>
        rw [hr, if_neg (by simp)] at k
        refine if_true_of rfl ?_
        exact ⟨(by show 2 ≤ sizeLine; decide), fun o no => k _ o ⟨same_next (Same.refl H) no, no, upd_same⟩⟩
      | none =>
        rw [hr, if_pos (show (none : Option Stretch).isNone = true from rfl)] at k
        refine if_false_of rfl ?_
        refine ⟨_, rfl, _, rfl, a, _, _, _, rfl, rfl, hS, atI_last _ _, ?_⟩
        refine ⟨_, rfl, p, CD, dj, _, _, rfl, hj, T.cl_Day, T.n_Day_start, dayF_start x, _, rfl, p, CD, dj, _, _, rfl, hj, T.cl_Day, T.n_Day_driving, dayF_driving x, ?_⟩
        exact ⟨(by show 2 ≤ sizeLine; decide), fun o no => k _ o ⟨same_next (Same.refl H) no, no, upd_same⟩⟩
end
end Dh

end
section
set_option Elab.async false
set_option maxRecDepth 100000
set_option maxHeartbeats 4000000
namespace Dh
open PySem PySem.Spec PyProof.Rows L2
open Kg70 (Stretch Told line total Broken Day Debt sixDays twoShort inWeek days toldOf within)
/-- the answer of now, as the defs tell its parts -/
theorem now_is (t : Told) : anss (Kg70.spec t .now).2 = (total t : Int) :: (sinceOf (line t) ++ (dayOf (days none (line t)) ++ weekOf (line t) (total t))) := by
  show (total t : Int) :: (Kg70.whole [(Kg70.lastRun Kg70.fresh (line t)).driven, Kg70.truth (Kg70.lastRun Kg70.fresh (line t)).part] ++ _) = _
  unfold dayOf
  cases h : (days none (line t)).getLast? with
  | none => rfl
  | some x =>
    cases hr : x.rest with
    | none =>
      simp only [hr, Option.isNone_none, if_true]
      rfl
    | some r =>
      simp only [hr, Option.isNone_some, Bool.false_eq_true, if_false]
      rfl
def dayRow (e : Nat) (d : Day) : List Int := [(d.from_ : Int), (d.driven : Int), (d.had : Int), (d.kind e : Int)]
theorem days_is (t : Told) : anss (Kg70.spec t .days).2 = ((days none (line t)).length : Int) :: (days none (line t)).flatMap (dayRow (total t)) := by
  show ((days none (line t)).length : Int) :: Kg70.whole _ = _
  unfold Kg70.whole
  rw [List.map_flatMap]
  rfl
theorem rows_len (e : Nat) : ∀ l : List Day, (l.flatMap (dayRow e)).length = 4 * l.length
  | [] => rfl
  | d :: l => by
    rw [List.flatMap_cons, List.length_append, rows_len e l]
    simp only [dayRow, List.length_cons, List.length_nil]
    omega
section
variable {P : Program} {w : World} {K : PySem.W.Frag} {mg : Str → Option Value} {base : Heap} {CS CD CV : Addr}
def spNow (C : Addr) : Sp := fun vs H Q _ => ∃ (a l : Addr) (t : Told), vs = [.ref a] ∧ DriverAt C H a l t ∧ t.length ≤ 400 ∧ ToldOk t ∧ ∀ H' l' p, Done C H H' a l l' p (Kg70.spec t .now).1 (anss (Kg70.spec t .now).2) → Q (.ref p) H'
def spDaysCall (C : Addr) : Sp := fun vs H Q _ => ∃ (a l : Addr) (t : Told), vs = [.ref a] ∧ DriverAt C H a l t ∧ t.length ≤ 400 ∧ ToldOk t ∧ ∀ H' l' p, Done C H H' a l l' p (Kg70.spec t .days).1 (anss (Kg70.spec t .days).2) → Q (.ref p) H'
def spWeekCall (C : Addr) : Sp := fun vs H Q _ => ∃ (a l : Addr) (t : Told) (k : Int), vs = [.ref a, .int k] ∧ DriverAt C H a l t ∧ t.length ≤ 400 ∧ ToldOk t ∧ ∀ H' l' p, Done C H H' a l l' p (Kg70.spec t (.week k)).1 (anss (Kg70.spec t (.week k)).2) → Q (.ref p) H'
theorem ok_Driver_now {f : Addr} {fd : FuncData} (F : Fun K "now" "Driver.now" s_Driver_now f fd) (T : Txt K mg CS CD CV)
    (D1 : Kn P w K mg base 1 "stretches_of" ["told"] (spStr K)) (D2 : Kn P w K mg base 1 "end_of" ["told"] (spEnd K)) (D3 : Kn P w K mg base 3 "days_of" ["stretches"] (spDays K CD))
    (D4 : Kn P w K mg base 4 "since_whole_break" ["stretches"] (spSince K)) (D5 : Kn P w K mg base 1 "day_going_on" ["days"] (spDayOn K CD))
    (D6 : Kn P w K mg base 4 "week_going_on" ["stretches", "end"] (spWeekOn K)) :
    FnOk P w K mg base CX0 5 f fd ["self"] (spNow CV) := by
  obtain ⟨f_stretches_of, fd_stretches_of, G_stretches_of, g_stretches_of, k_stretches_of, B_stretches_of⟩ := D1
  obtain ⟨f_end_of, fd_end_of, G_end_of, g_end_of, k_end_of, B_end_of⟩ := D2
  obtain ⟨f_days_of, fd_days_of, G_days_of, g_days_of, k_days_of, B_days_of⟩ := D3
  obtain ⟨f_since_whole_break, fd_since_whole_break, G_since_whole_break, g_since_whole_break, k_since_whole_break, B_since_whole_break⟩ := D4
  obtain ⟨f_day_going_on, fd_day_going_on, G_day_going_on, g_day_going_on, k_day_going_on, B_day_going_on⟩ := D5
  obtain ⟨f_week_going_on, fd_week_going_on, G_week_going_on, g_week_going_on, k_week_going_on, B_week_going_on⟩ := D6
  refine F.ok sc_Driver_now (fun vs H Q E h => ?_) (fun cdv A outer s H vs Q E hr h => ⟨_, (pss_cons (ps_set (i := 1) sc_Driver_now.nd rfl (Or.inl rfl) (pe_call G_stretches_of (hr.mono (by decide)) (by rfl) g_stretches_of k_stretches_of B_stretches_of .nil pass0 (pa_cons (pe_fld (pv 0) rfl) pa_nil)))
      (pss_cons (ps_set (i := 2) sc_Driver_now.nd rfl (Or.inl rfl) (pe_call G_end_of (hr.mono (by decide)) (by rfl) g_end_of k_end_of B_end_of .nil pass0 (pa_cons (pe_fld (pv 0) rfl) pa_nil)))
      (pss_cons (ps_set (i := 3) sc_Driver_now.nd rfl (Or.inl rfl) (pe_lst (pa_cons (pv 2) pa_nil)))
      (pss_cons (ps_expr (pe_bm PySem.F.plainAttrs_list PySem.F.slot_list_extend PySem.F.type_list_extend mt_extend (pv 3) (pa_cons (pe_call G_since_whole_break (hr.mono (by decide)) (by rfl) g_since_whole_break k_since_whole_break B_since_whole_break .nil pass0 (pa_cons (pv 1) pa_nil)) pa_nil)))
      (pss_cons (ps_expr (pe_bm PySem.F.plainAttrs_list PySem.F.slot_list_extend PySem.F.type_list_extend mt_extend (pv 3) (pa_cons (pe_call G_day_going_on (hr.mono (by decide)) (by rfl) g_day_going_on k_day_going_on B_day_going_on .nil pass0 (pa_cons (pe_call G_days_of (hr.mono (by decide)) (by rfl) g_days_of k_days_of B_days_of .nil pass0 (pa_cons (pv 1) pa_nil)) pa_nil)) pa_nil)))
      (pss_cons (ps_expr (pe_bm PySem.F.plainAttrs_list PySem.F.slot_list_extend PySem.F.type_list_extend mt_extend (pv 3) (pa_cons (pe_call G_week_going_on (hr.mono (by decide)) (by rfl) g_week_going_on k_week_going_on B_week_going_on .nil pass0 (pa_cons (pv 1) (pa_cons (pv 2) pa_nil))) pa_nil)))
      (pss_one (ps_ret (pv 3))))))))), ?_⟩)
  · obtain ⟨a, l, t, rfl, _⟩ := h
    rfl
  · obtain ⟨a, l, t, rfl, hd, hlen, hok, k⟩ := h
    obtain ⟨⟨dx, ha⟩, hR⟩ := id hd
    have hLn := line_ok t hok
    have hEnd := endOf_line t
    have hll := len_line t
    have htl := total_le t hok
    have hall : ∀ s ∈ line t, s.from_ < s.till := fun s m => (till_le _ _ _ hLn s m).2.1
    refine ⟨_, rfl, a, CV, dx, _, _, rfl, ha, T.cl_Driver, T.n_Driver_told, drvF_told l, l, t, rfl, hR.read, by omega, fun H1 p1 r1 => ?_⟩
    refine ⟨_, rfl, a, CV, dx, _, _, rfl, r1.same _ _ ha, T.cl_Driver, T.n_Driver_told, drvF_told l, l, t, rfl, (hR.same r1.same).read, by omega, fun H2 s2 => ?_⟩
    refine ⟨_, rfl, (by show 1 ≤ sizeLine; decide), fun o no => ?_⟩
    have s02 : Same H H2 := r1.same.trans s2
    have noH : H o = none := same_back s02 no
    have hp1o : p1 ≠ o := fun q => by
      obtain ⟨ps, e, _⟩ := r1.rows
      have := s2 _ _ e
      rw [q, no] at this
      cases this
    have hR3 : RowsR K (upd H2 o (.lst (ivs [(total t : Int)]))) p1 ((line t).map sr) := r1.rows.read.same (s2.trans (same_next (Same.refl H2) no))
    have b3 : But o H2 (upd H2 o (.lst (ivs [(total t : Int)]))) := but_upd
    have ho3 : (upd H2 o (.lst (ivs [(total t : Int)]))) o = some (.lst (ivs [(total t : Int)])) := upd_same
    refine extI (i := 3) (zs := [(total t : Int)]) (ws := sinceOf (line t)) rfl ho3 (by show 1 + 2 ≤ _; decide) (fun Q q => ⟨_, rfl, p1, line t, rfl, hR3, by omega, hall, q⟩) fun H4 ho4 b4 => ?_
    have hR4 : RowsR K H4 p1 ((line t).map sr) := hR3.but hp1o ho3 b4
    have hdl : (dayOf (days none (line t))).length = 2 := by
      unfold dayOf
      split
      · split <;> rfl
      · rfl
    refine extI (i := 3) (ws := dayOf (days none (line t))) rfl ho4 (by rw [hdl]; show 3 + 2 ≤ _; decide) (fun Q q => ⟨_, rfl, p1, line t, rfl, hR4, by omega, hLn, fun H5 p5 s5 n5 hd5 => ⟨p5, _, rfl, hd5.read, fun H6 p6 n6 => q _ _ ⟨s5.trans n6.same, same_back s5 n6.new, n6.arr⟩⟩⟩) fun H7 ho7 b7 => ?_
    have hR7 : RowsR K H7 p1 ((line t).map sr) := hR4.but hp1o ho4 b7
    refine extI (i := 3) (ws := weekOf (line t) (total t)) rfl ho7 (by rw [List.length_append, hdl]; show 3 + 2 + 2 ≤ _; decide) (fun Q q => ⟨_, rfl, _, rfl, p1, line t, total t, rfl, hR7, by omega, hLn, by rw [hEnd]; omega, q⟩) fun H8 ho8 b8 => ?_
    have s08 : Same H H8 := but_same s02 noH (but_trans b3 (but_trans b4 (but_trans b7 b8)))
    refine ⟨_, rfl, k _ l o (done_same hd s08 noH ?_)⟩
    rw [now_is, ho8]
    simp only [List.append_assoc, List.cons_append, List.nil_append]
theorem ok_Driver_days {f : Addr} {fd : FuncData} (F : Fun K "days" "Driver.days" s_Driver_days f fd) (T : Txt K mg CS CD CV)
    (D1 : Kn P w K mg base 1 "stretches_of" ["told"] (spStr K)) (D2 : Kn P w K mg base 1 "end_of" ["told"] (spEnd K)) (D3 : Kn P w K mg base 3 "days_of" ["stretches"] (spDays K CD))
    (D4 : Km P w K mg base CD 1 "counted_rest" ["self"] (spCounted CD)) (D5 : Km P w K mg base CD 2 "rest_kind" ["self", "end"] (spKind CD)) :
    FnOk P w K mg base CX0 4 f fd ["self"] (spDaysCall CV) := by
  obtain ⟨f_stretches_of, fd_stretches_of, G_stretches_of, g_stretches_of, k_stretches_of, B_stretches_of⟩ := D1
  obtain ⟨f_end_of, fd_end_of, G_end_of, g_end_of, k_end_of, B_end_of⟩ := D2
  obtain ⟨f_days_of, fd_days_of, G_days_of, g_days_of, k_days_of, B_days_of⟩ := D3
  obtain ⟨f_Day_counted_rest, fd_Day_counted_rest, G_Day_counted_rest, m_Day_counted_rest, B_Day_counted_rest⟩ := D4
  obtain ⟨f_Day_rest_kind, fd_Day_rest_kind, G_Day_rest_kind, m_Day_rest_kind, B_Day_rest_kind⟩ := D5
  refine F.ok sc_Driver_days (fun vs H Q E h => ?_) (fun cdv A outer s H vs Q E hr h => ⟨_, (pss_cons (ps_set (i := 1) sc_Driver_days.nd rfl (Or.inl rfl) (pe_call G_end_of (hr.mono (by decide)) (by rfl) g_end_of k_end_of B_end_of .nil pass0 (pa_cons (pe_fld (pv 0) rfl) pa_nil)))
      (pss_cons (ps_set (i := 2) sc_Driver_days.nd rfl (Or.inl rfl) (pe_call G_days_of (hr.mono (by decide)) (by rfl) g_days_of k_days_of B_days_of .nil pass0 (pa_cons (pe_call G_stretches_of (hr.mono (by decide)) (by rfl) g_stretches_of k_stretches_of B_stretches_of .nil pass0 (pa_cons (pe_fld (pv 0) rfl) pa_nil)) pa_nil)))
      (pss_cons (ps_set (i := 3) sc_Driver_days.nd rfl (Or.inl rfl) (pe_lst (pa_cons (pe_callB call_len_seq (by rfl) T.b_len (by decide +kernel) (pa_cons (pv 2) pa_nil)) pa_nil)))
      (pss_cons (ps_for PassesOwn.never rfl (pi_list (pv 2)) (pg_name (i := 4) sc_Driver_days.nd rfl (Or.inl rfl)) (pss_one (ps_expr (pe_bm PySem.F.plainAttrs_list PySem.F.slot_list_extend PySem.F.type_list_extend mt_extend (pv 3) (pa_cons (pe_lst (pa_cons (pe_fld (pv 4) rfl) (pa_cons (pe_fld (pv 4) rfl) (pa_cons (pe_meth0 (pv 4) T.cl_Day m_Day_counted_rest G_Day_counted_rest (hr.mono (by decide)) B_Day_counted_rest .nil pass0) (pa_cons (pe_meth (pv 4) T.cl_Day m_Day_rest_kind G_Day_rest_kind (hr.mono (by decide)) B_Day_rest_kind .nil pass0 (pa_cons (pv 1) pa_nil)) pa_nil))))) pa_nil)))))
      (pss_one (ps_ret (pv 3))))))), ?_⟩)
  · obtain ⟨a, l, t, rfl, _⟩ := h
    rfl
  · obtain ⟨a, l, t, rfl, hd, hlen, hok, k⟩ := h
    obtain ⟨⟨dx, ha⟩, hR⟩ := id hd
    have hLn := line_ok t hok
    have hll := len_line t
    have hdl := len_days (line t) none
    simp only [Option.isSome_none, Bool.false_eq_true, if_false, Nat.add_zero] at hdl
    refine ⟨_, rfl, a, CV, dx, _, _, rfl, ha, T.cl_Driver, T.n_Driver_told, drvF_told l, l, t, rfl, hR.read, by omega, fun H1 s1 => ?_⟩
    refine ⟨_, rfl, a, CV, dx, _, _, rfl, s1 _ _ ha, T.cl_Driver, T.n_Driver_told, drvF_told l, l, t, rfl, (hR.same s1).read, by omega, fun H2 p2 r2 => ?_⟩
    refine ⟨p2, line t, rfl, r2.rows.read, by omega, hLn, fun H3 p3 s3 n3 hd3 => ?_⟩
    obtain ⟨ps, e3, hO⟩ := hd3
    rw [days_is] at k
    generalize hds : days none (line t) = ds at hO hdl k
    have hS3 : SqL K H3 p3 (ps.map V.ref) := SqL.of e3
    have hlp : (ps.map V.ref).length = ds.length := by rw [List.length_map, hO.len]
    have s03 : Same H H3 := s1.trans (r2.same.trans s3)
    refine ⟨_, rfl, p3, _, rfl, .inl hS3, (by show 1 ≤ sizeLine; decide), fun o no => ?_⟩
    have hpo : p3 ≠ o := fun q => by rw [← q, e3] at no; cases no
    have noH := same_back s03 no
    refine ⟨_, rfl, p3, rfl, ⟨_, (same_next (Same.refl H3) no).seq hS3⟩, for_list (K := K) (a := p3) (xs := ps.map V.ref) (fun i σ H' => ∃ (v4 : Option V), σ = [some (.ref a), some (.int (total t : Nat)), some (.ref p3), some (.ref o), v4] ∧ But o H3 H' ∧ H' o = some (.lst (ivs ((ds.length : Int) :: (ds.take i).flatMap (dayRow (total t))))))
      ⟨_, rfl, (fun b u q n => (upd_ne n).trans q), ?_⟩ (fun i σ H' _ ⟨_, _, b, _⟩ => seq_but hS3 hpo b) ?_ ?_⟩
    · rw [upd_same, hlp]
      rfl
    · rintro i v σ H' hi ⟨v4, rfl, b, ho⟩
      obtain ⟨p, d, rfl, hp, hdg, hX⟩ := hO.item hi
      have hpo2 : p ≠ o := fun q => by
        obtain ⟨_, e⟩ := hX
        rw [q, no] at e
        cases e
      have hX' := hX.but hpo2 b
      obtain ⟨dj, hj⟩ := id hX'
      refine ⟨_, rfl, .inl ⟨rfl, _, SqL.of ho⟩, _, rfl, p, CD, dj, _, _, rfl, hj, T.cl_Day, T.n_Day_start, dayF_start d, _, rfl, p, CD, dj, _, _, rfl, hj, T.cl_Day, T.n_Day_driving, dayF_driving d, ?_⟩
      refine ⟨.ref p, rfl, p, dj, _, rfl, hj, dayF_m2 d, p, d, rfl, hX', ?_⟩
      refine ⟨.ref p, rfl, p, dj, _, rfl, hj, dayF_m3 d, _, rfl, p, d, total t, rfl, hX', ?_⟩
      refine ⟨(by show 4 ≤ sizeLine; decide), fun q nq => ?_⟩
      have hqo : o ≠ q := fun z => by rw [← z, ho] at nq; cases nq
      refine ⟨o, q, _, _, rfl, rfl, (upd_ne hqo).trans ho, upd_same, ?_, ?_⟩
      · have h1 := rows_len (total t) (ds.take i)
        rw [List.length_take] at h1
        simp only [List.length_map, List.length_cons, List.length_nil]
        exact szle (by omega)
      · refine ⟨_, rfl, fun c u z n => ?_, ?_⟩
        · have := b c u z n
          rw [upd_ne n, upd_ne (ne_of_none this nq)]
          exact this
        · rw [upd_same, take_one hdg, List.flatMap_append, List.flatMap_cons, List.flatMap_nil, List.append_nil]
          simp only [ivs, dayRow, List.map_cons, List.map_append, List.map_nil, List.cons_append]
    · rintro σ H' ⟨v4, rfl, b, ho⟩
      rw [hlp, List.take_length] at ho
      have sH : Same H H' := but_same s03 noH b
      exact ⟨_, rfl, k _ l o (done_same hd sH noH ho)⟩
theorem ok_Driver_week {f : Addr} {fd : FuncData} (F : Fun K "week" "Driver.week" s_Driver_week f fd) (T : Txt K mg CS CD CV)
    (D1 : Kn P w K mg base 1 "stretches_of" ["told"] (spStr K)) (D2 : Kn P w K mg base 3 "driving_in_week" ["stretches", "week"] (spInWeek K)) :
    FnOk P w K mg base CX0 4 f fd ["self", "k"] (spWeekCall CV) := by
  obtain ⟨f_stretches_of, fd_stretches_of, G_stretches_of, g_stretches_of, k_stretches_of, B_stretches_of⟩ := D1
  obtain ⟨f_driving_in_week, fd_driving_in_week, G_driving_in_week, g_driving_in_week, k_driving_in_week, B_driving_in_week⟩ := D2
  refine F.ok sc_Driver_week (fun vs H Q E h => ?_) (fun cdv A outer s H vs Q E hr h => ⟨_, (pss_cons (ps_if (pt_not (pt_chain op_le op_le pe_int (pv 1) (pe_k rfl T.c_LAST_WEEK))) (pss_one (ps_ret (pe_lst (pa_cons (pe_k rfl T.c_NOT_ALLOWED) pa_nil)))) pss_nil)
      (pss_one (ps_ret (pe_lst (pa_cons (pe_call G_driving_in_week (hr.mono (by decide)) (by rfl) g_driving_in_week k_driving_in_week B_driving_in_week .nil pass0 (pa_cons (pe_call G_stretches_of (hr.mono (by decide)) (by rfl) g_stretches_of k_stretches_of B_stretches_of .nil pass0 (pa_cons (pe_fld (pv 0) rfl) pa_nil)) (pa_cons (pv 1) pa_nil))) pa_nil))))), ?_⟩)
  · obtain ⟨a, l, t, n, rfl, _⟩ := h
    rfl
  · obtain ⟨a, l, t, n, rfl, hd, hlen, hok, k⟩ := h
    obtain ⟨⟨dx, ha⟩, hR⟩ := id hd
    have hLn := line_ok t hok
    have hEnd := endOf_line t
    have hll := len_line t
    have htl := total_le t hok
    have hspec : Kg70.spec t (.week n) = if within n 0 1000 = false then (t, Kg70.num (-1)) else (t, Kg70.num (inWeek (line t) n.toNat : Nat)) := rfl
    rw [hspec] at k
    have no : within n 0 1000 = false → tRet (tLst (tCons (tC (.int (-1))) tNil)) { nx := fun _ H' => Q .non H', rt := Q } [some (.ref a), some (.int n)] H := fun c => by
      rw [if_pos c] at k
      exact ⟨(by show 1 ≤ sizeLine; decide), fun p np => k _ l p (done_same hd (same_next (Same.refl H) np) np upd_same)⟩
    refine ⟨_, rfl, _, _, rfl, rfl, _, rfl, if_dec (fun c1 => ?_) (fun c1 => ?_)⟩
    · refine ⟨_, _, rfl, rfl, _, rfl, ?_⟩
      refine if_ndec (fun c2 => ?_) (fun c2 => ?_)
      · exact no (by cases q : within n 0 1000 with | false => rfl | true => exact absurd ((within_iff _ _ _).mp q).2 c2)
      · have hw : ¬ within n 0 1000 = false := by
          rw [(within_iff n 0 1000).mpr ⟨c1, c2⟩]
          decide
        rw [if_neg hw] at k
        refine ⟨_, rfl, a, CV, dx, _, _, rfl, ha, T.cl_Driver, T.n_Driver_told, drvF_told l, l, t, rfl, hR.read, by omega, fun H1 p1 r1 => ?_⟩
        refine ⟨_, rfl, p1, line t, n, rfl, r1.rows.read, by omega, hLn, by rw [hEnd]; omega, fun H2 s2 => ?_⟩
        have s02 : Same H H2 := r1.same.trans s2
        refine ⟨(by show 1 ≤ sizeLine; decide), fun p np => k _ l p (done_same hd (same_next s02 np) (same_back s02 np) ?_)⟩
        rw [upd_same]
        have e : weekD (line t) n = inWeek (line t) n.toNat := by unfold weekD; rw [if_pos c1]
        rw [e]
        rfl
    · refine ⟨_, rfl, if_true_of rfl ?_⟩
      exact no (by cases q : within n 0 1000 with | false => rfl | true => exact absurd ((within_iff _ _ _).mp q).1 c1)
end
end Dh

end
section
set_option Elab.async false
set_option maxRecDepth 100000
set_option maxHeartbeats 4000000
namespace Dh
open PySem PySem.Spec PyProof.Rows L2
open Kg70 (Stretch Told line total Broken Day Debt sixDays twoShort inWeek days toldOf within)
/-! ### a call: its length, its answer -/
theorem get_of_drop {l m : List Int} {i j : Nat} {x : Int} (h : l.drop i = m) (g : m[j]? = some x) : (ivs l)[i + j]? = some (.int x) := by
  have e : l[i + j]? = some x := by rw [← List.getElem?_drop, h, g]
  unfold ivs
  rw [List.getElem?_map, e]
  rfl
theorem Done.back {C : Addr} {H H' : Hp} {a l l' p n : Addr} {t : Told} {zs : List Int} {x : HO} (d : Done C (upd H n x) H' a l l' p t zs) (nn : H n = none) : Done C H H' a l l' p t zs := by
  have s : Same H (upd H n x) := same_next (Same.refl H) nn
  refine ⟨d.drv, d.res, same_back s d.new, d.ne, ?_, fun b u e n1 n2 => d.keep b u (s b u e) n1 n2⟩
  rcases d.told with e | e
  · exact .inl e
  · exact .inr (same_back s e)
theorem cut_from2 (xs : List V) (h : 2 ≤ xs.length) : cutV xs (some 2) none = xs.drop 2 := by
  unfold cutV
  have e : (2 : Int) = ((2 : Nat) : Int) := rfl
  rw [e, HT.sIx_nat, HT.sIx_none, Nat.min_eq_left h, List.take_of_length_le]
  rw [List.length_drop]
  exact Nat.le_refl _
section
variable {P : Program} {w : World} {K : PySem.W.Frag} {mg : Str → Option Value} {base : Heap} {CS CD CV : Addr}
theorem ok_length_of_call {f : Addr} {fd : FuncData} (F : Fun K "length_of_call" "length_of_call" s_length_of_call f fd) (T : Txt K mg CS CD CV) :
    FnOk P w K mg base CX0 1 f fd ["calls", "at"] (spLen K) := by
  refine F.ok sc_length_of_call (fun vs H Q E h => ?_) (fun cdv A outer s H vs Q E hr h => ⟨_, (pss_cons (ps_if (pt_cmpR op_eq (pe_ix ix_list (pv 0) (pv 1) (fun _ _ => rfl)) (pe_k rfl T.c_ADD) (nomark _)) (pss_one (ps_ret (pe_op op_add pe_int (pe_ix ix_list (pv 0) (pe_op op_add (pv 1) pe_int) (fun _ _ => rfl))))) pss_nil)
      (pss_cons (ps_if (PW.pt (pw_or (pt_cmpR op_eq (pe_ix ix_list (pv 0) (pv 1) (fun _ _ => rfl)) (pe_k rfl T.c_DROP) (nomark _)) (pw_or1 (pt_cmpR op_eq (pe_ix ix_list (pv 0) (pv 1) (fun _ _ => rfl)) (pe_k rfl T.c_WEEK_hours) (nomark _))))) (pss_one (ps_ret pe_int)) pss_nil)
      (pss_one (ps_ret pe_int)))), ?_⟩)
  · obtain ⟨a, l, i, c, r, rfl, _⟩ := h
    rfl
  · obtain ⟨a, l, i, c, r, rfl, hS, hdr, hask, k⟩ := h
    have cases2 : (∃ m, c = [[2], m]) ∨ ∃ (x : Int) (m : List Int), flat c = x :: m ∧ x ≠ 2 ∧ (((flat c).length : Nat) : Int) = if x = 3 ∨ x = 7 then 2 else 1 := by
      rcases asked_cases c hask with rfl | ⟨m, rfl, hm⟩ | ⟨n, rfl⟩ | rfl | rfl | rfl | ⟨n, rfl⟩
      · exact .inr ⟨1, _, rfl, by decide, rfl⟩
      · exact .inl ⟨m, rfl⟩
      · exact .inr ⟨3, _, rfl, by decide, rfl⟩
      · exact .inr ⟨4, _, rfl, by decide, rfl⟩
      · exact .inr ⟨5, _, rfl, by decide, rfl⟩
      · exact .inr ⟨6, _, rfl, by decide, rfl⟩
      · exact .inr ⟨7, _, rfl, by decide, rfl⟩
    rcases cases2 with ⟨m, rfl⟩ | ⟨x, m, hx, h2, hlen⟩
    · have g : (ivs l)[i]? = some (.int 2) := get_of_drop (j := 0) hdr rfl
      have g1 : (ivs l)[i + 1]? = some (.int (m.length : Nat)) := get_of_drop (j := 1) hdr rfl
      refine ⟨_, rfl, _, rfl, a, _, _, _, rfl, rfl, hS, atI_nat g, rfl, _, rfl, ?_⟩
      refine if_true_of (is_eq rfl) ?_
      refine ⟨_, rfl, _, rfl, _, _, rfl, rfl, a, _, _, _, rfl, rfl, hS, at_of (by omega) g1, _, _, rfl, rfl, ?_⟩
      have e : (2 : Int) + (m.length : Nat) = ((flat [[2], m]).length : Nat) := by
        show (2 : Int) + (m.length : Nat) = ((m.length + 1 + 1 : Nat) : Int)
        omega
      rw [← e] at k
      exact k
    · rw [hlen] at k
      have g : (ivs l)[i]? = some (.int x) := get_of_drop (j := 0) hdr (by rw [hx]; rfl)
      refine ⟨_, rfl, _, rfl, a, _, _, _, rfl, rfl, hS, atI_nat g, rfl, _, rfl, ?_⟩
      refine if_false_of (no_eq h2) ?_
      refine ⟨_, rfl, _, rfl, a, _, _, _, rfl, rfl, hS, atI_nat g, rfl, _, rfl, ?_⟩
      by_cases h3 : x = 3
      · rw [if_pos (.inl h3)] at k
        exact if_true_of (is_eq h3) (if_true_of rfl k)
      · refine if_false_of (no_eq h3) ?_
        refine ⟨_, rfl, _, rfl, a, _, _, _, rfl, rfl, hS, atI_nat g, rfl, _, rfl, ?_⟩
        by_cases h7 : x = 7
        · rw [if_pos (.inr h7)] at k
          exact if_true_of (is_eq h7) k
        · rw [if_neg (fun z => z.elim h3 h7)] at k
          exact if_false_of (no_eq h7) k
theorem ok_answer {f : Addr} {fd : FuncData} (F : Fun K "answer" "answer" s_answer f fd) (T : Txt K mg CS CD CV)
    (D1 : Km P w K mg base CV 1 "begin" ["self"] (spBegin CV)) (D2 : Km P w K mg base CV 2 "add" ["self", "numbers"] (spAdd K CV)) (D3 : Km P w K mg base CV 2 "drop" ["self", "n"] (spDrop CV))
    (D4 : Km P w K mg base CV 6 "report" ["self"] (spReport CV)) (D5 : Km P w K mg base CV 5 "now" ["self"] (spNow CV)) (D6 : Km P w K mg base CV 4 "days" ["self"] (spDaysCall CV))
    (D7 : Km P w K mg base CV 4 "week" ["self", "k"] (spWeekCall CV)) :
    FnOk P w K mg base CX0 7 f fd ["driver", "call"] (spAnswer K CV) := by
  obtain ⟨f_Driver_begin, fd_Driver_begin, G_Driver_begin, m_Driver_begin, B_Driver_begin⟩ := D1
  obtain ⟨f_Driver_add, fd_Driver_add, G_Driver_add, m_Driver_add, B_Driver_add⟩ := D2
  obtain ⟨f_Driver_drop, fd_Driver_drop, G_Driver_drop, m_Driver_drop, B_Driver_drop⟩ := D3
  obtain ⟨f_Driver_report, fd_Driver_report, G_Driver_report, m_Driver_report, B_Driver_report⟩ := D4
  obtain ⟨f_Driver_now, fd_Driver_now, G_Driver_now, m_Driver_now, B_Driver_now⟩ := D5
  obtain ⟨f_Driver_days, fd_Driver_days, G_Driver_days, m_Driver_days, B_Driver_days⟩ := D6
  obtain ⟨f_Driver_week, fd_Driver_week, G_Driver_week, m_Driver_week, B_Driver_week⟩ := D7
  refine F.ok sc_answer (fun vs H Q E h => ?_) (fun cdv A outer s H vs Q E hr h => ⟨_, (pss_cons (ps_if (pt_cmpR op_eq (pe_ix ix_list (pv 1) pe_int (fun _ _ => rfl)) (pe_k rfl T.c_BEGIN) (nomark _)) (pss_one (ps_ret (pe_meth0 (pv 0) T.cl_Driver m_Driver_begin G_Driver_begin (hr.mono (by decide)) B_Driver_begin .nil pass0))) pss_nil)
      (pss_cons (ps_if (pt_cmpR op_eq (pe_ix ix_list (pv 1) pe_int (fun _ _ => rfl)) (pe_k rfl T.c_ADD) (nomark _)) (pss_one (ps_ret (pe_meth (pv 0) T.cl_Driver m_Driver_add G_Driver_add (hr.mono (by decide)) B_Driver_add .nil pass0 (pa_cons (pe_slice sl_list (pv 1) (po_some pe_int) po_none) pa_nil)))) pss_nil)
      (pss_cons (ps_if (pt_cmpR op_eq (pe_ix ix_list (pv 1) pe_int (fun _ _ => rfl)) (pe_k rfl T.c_DROP) (nomark _)) (pss_one (ps_ret (pe_meth (pv 0) T.cl_Driver m_Driver_drop G_Driver_drop (hr.mono (by decide)) B_Driver_drop .nil pass0 (pa_cons (pe_ix ix_list (pv 1) pe_int (fun _ _ => rfl)) pa_nil)))) pss_nil)
      (pss_cons (ps_if (pt_cmpR op_eq (pe_ix ix_list (pv 1) pe_int (fun _ _ => rfl)) (pe_k rfl T.c_REPORT) (nomark _)) (pss_one (ps_ret (pe_meth0 (pv 0) T.cl_Driver m_Driver_report G_Driver_report (hr.mono (by decide)) B_Driver_report .nil pass0))) pss_nil)
      (pss_cons (ps_if (pt_cmpR op_eq (pe_ix ix_list (pv 1) pe_int (fun _ _ => rfl)) (pe_k rfl T.c_NOW) (nomark _)) (pss_one (ps_ret (pe_meth0 (pv 0) T.cl_Driver m_Driver_now G_Driver_now (hr.mono (by decide)) B_Driver_now .nil pass0))) pss_nil)
      (pss_cons (ps_if (pt_cmpR op_eq (pe_ix ix_list (pv 1) pe_int (fun _ _ => rfl)) (pe_k rfl T.c_DAYS) (nomark _)) (pss_one (ps_ret (pe_meth0 (pv 0) T.cl_Driver m_Driver_days G_Driver_days (hr.mono (by decide)) B_Driver_days .nil pass0))) pss_nil)
      (pss_cons (ps_if (pt_cmpR op_eq (pe_ix ix_list (pv 1) pe_int (fun _ _ => rfl)) (pe_k rfl T.c_WEEK_hours) (nomark _)) (pss_one (ps_ret (pe_meth (pv 0) T.cl_Driver m_Driver_week G_Driver_week (hr.mono (by decide)) B_Driver_week .nil pass0 (pa_cons (pe_ix ix_list (pv 1) pe_int (fun _ _ => rfl)) pa_nil)))) pss_nil)
      (pss_one ps_never)))))))), ?_⟩)
  · obtain ⟨a, l, n, t, c, rfl, _⟩ := h
    rfl
  · obtain ⟨a, l, n, t, c, rfl, hd, hlen, hok, hS, hask, hnl, hna, k⟩ := h
    obtain ⟨⟨dx, ha⟩, hR⟩ := id hd
    rcases asked_cases c hask with rfl | ⟨m, rfl, hm⟩ | ⟨z, rfl⟩ | rfl | rfl | rfl | ⟨z, rfl⟩
    · refine ⟨_, rfl, n, _, _, _, rfl, rfl, hS, at_of (j := 0) rfl rfl, rfl, _, rfl, ?_⟩
      refine if_true_of (is_eq rfl) ?_
      exact ⟨_, rfl, a, dx, _, rfl, ha, drvF_none l (by decide +kernel), a, l, t, rfl, hd, k⟩
    · refine ⟨_, rfl, n, _, _, _, rfl, rfl, hS, at_of (j := 0) rfl rfl, rfl, _, rfl, ?_⟩
      refine if_false_of (no_eq (by decide)) ?_
      refine ⟨_, rfl, n, _, _, _, rfl, rfl, hS, at_of (j := 0) rfl rfl, rfl, _, rfl, ?_⟩
      refine if_true_of (is_eq rfl) ?_
      refine ⟨_, rfl, a, dx, _, rfl, ha, drvF_none l (by decide +kernel), _, rfl, _, rfl, n, _, rfl, hS, fun n' nn => ?_⟩
      have hcut : cutV (ivs (flat [[2], m])) (some 2) none = ivs m := by
        rw [cut_from2 _ (by simp [flat])]
        rfl
      rw [hcut]
      have hn'l : n' ≠ l := fun q => by
        obtain ⟨_, e, _⟩ := hR
        rw [q, e] at nn
        cases nn
      have hn'a : n' ≠ a := fun q => by rw [q, ha] at nn; cases nn
      exact ⟨a, l, n', t, m, rfl, hd.same (same_next (Same.refl H) nn), hlen, SqL.of upd_same, hn'l, hn'a, hm, fun H' l' p dn => k H' l' p (dn.back nn)⟩
    · refine ⟨_, rfl, n, _, _, _, rfl, rfl, hS, at_of (j := 0) rfl rfl, rfl, _, rfl, ?_⟩
      refine if_false_of (no_eq (by decide)) ?_
      refine ⟨_, rfl, n, _, _, _, rfl, rfl, hS, at_of (j := 0) rfl rfl, rfl, _, rfl, ?_⟩
      refine if_false_of (no_eq (by decide)) ?_
      refine ⟨_, rfl, n, _, _, _, rfl, rfl, hS, at_of (j := 0) rfl rfl, rfl, _, rfl, ?_⟩
      refine if_true_of (is_eq rfl) ?_
      exact ⟨_, rfl, a, dx, _, rfl, ha, drvF_none l (by decide +kernel), _, rfl, n, _, _, _, rfl, rfl, hS, at_of (j := 1) rfl rfl, a, l, t, z, rfl, hd, hlen, k⟩
    · refine ⟨_, rfl, n, _, _, _, rfl, rfl, hS, at_of (j := 0) rfl rfl, rfl, _, rfl, ?_⟩
      refine if_false_of (no_eq (by decide)) ?_
      refine ⟨_, rfl, n, _, _, _, rfl, rfl, hS, at_of (j := 0) rfl rfl, rfl, _, rfl, ?_⟩
      refine if_false_of (no_eq (by decide)) ?_
      refine ⟨_, rfl, n, _, _, _, rfl, rfl, hS, at_of (j := 0) rfl rfl, rfl, _, rfl, ?_⟩
      refine if_false_of (no_eq (by decide)) ?_
      refine ⟨_, rfl, n, _, _, _, rfl, rfl, hS, at_of (j := 0) rfl rfl, rfl, _, rfl, ?_⟩
      refine if_true_of (is_eq rfl) ?_
      exact ⟨_, rfl, a, dx, _, rfl, ha, drvF_none l (by decide +kernel), a, l, t, rfl, hd, hlen, hok, k⟩
    · refine ⟨_, rfl, n, _, _, _, rfl, rfl, hS, at_of (j := 0) rfl rfl, rfl, _, rfl, ?_⟩
      refine if_false_of (no_eq (by decide)) ?_
      refine ⟨_, rfl, n, _, _, _, rfl, rfl, hS, at_of (j := 0) rfl rfl, rfl, _, rfl, ?_⟩
      refine if_false_of (no_eq (by decide)) ?_
      refine ⟨_, rfl, n, _, _, _, rfl, rfl, hS, at_of (j := 0) rfl rfl, rfl, _, rfl, ?_⟩
      refine if_false_of (no_eq (by decide)) ?_
      refine ⟨_, rfl, n, _, _, _, rfl, rfl, hS, at_of (j := 0) rfl rfl, rfl, _, rfl, ?_⟩
      refine if_false_of (no_eq (by decide)) ?_
      refine ⟨_, rfl, n, _, _, _, rfl, rfl, hS, at_of (j := 0) rfl rfl, rfl, _, rfl, ?_⟩
      refine if_true_of (is_eq rfl) ?_
      exact ⟨_, rfl, a, dx, _, rfl, ha, drvF_none l (by decide +kernel), a, l, t, rfl, hd, hlen, hok, k⟩
    · refine ⟨_, rfl, n, _, _, _, rfl, rfl, hS, at_of (j := 0) rfl rfl, rfl, _, rfl, ?_⟩
      refine if_false_of (no_eq (by decide)) ?_
      refine ⟨_, rfl, n, _, _, _, rfl, rfl, hS, at_of (j := 0) rfl rfl, rfl, _, rfl, ?_⟩
      refine if_false_of (no_eq (by decide)) ?_
      refine ⟨_, rfl, n, _, _, _, rfl, rfl, hS, at_of (j := 0) rfl rfl, rfl, _, rfl, ?_⟩
      refine if_false_of (no_eq (by decide)) ?_
      refine ⟨_, rfl, n, _, _, _, rfl, rfl, hS, at_of (j := 0) rfl rfl, rfl, _, rfl, ?_⟩
      refine if_false_of (no_eq (by decide)) ?_
      refine ⟨_, rfl, n, _, _, _, rfl, rfl, hS, at_of (j := 0) rfl rfl, rfl, _, rfl, ?_⟩
      refine if_false_of (no_eq (by decide)) ?_
      refine ⟨_, rfl, n, _, _, _, rfl, rfl, hS, at_of (j := 0) rfl rfl, rfl, _, rfl, ?_⟩
      refine if_true_of (is_eq rfl) ?_
      exact ⟨_, rfl, a, dx, _, rfl, ha, drvF_none l (by decide +kernel), a, l, t, rfl, hd, hlen, hok, k⟩
    · refine ⟨_, rfl, n, _, _, _, rfl, rfl, hS, at_of (j := 0) rfl rfl, rfl, _, rfl, ?_⟩
      refine if_false_of (no_eq (by decide)) ?_
      refine ⟨_, rfl, n, _, _, _, rfl, rfl, hS, at_of (j := 0) rfl rfl, rfl, _, rfl, ?_⟩
      refine if_false_of (no_eq (by decide)) ?_
      refine ⟨_, rfl, n, _, _, _, rfl, rfl, hS, at_of (j := 0) rfl rfl, rfl, _, rfl, ?_⟩
      refine if_false_of (no_eq (by decide)) ?_
      refine ⟨_, rfl, n, _, _, _, rfl, rfl, hS, at_of (j := 0) rfl rfl, rfl, _, rfl, ?_⟩
      refine if_false_of (no_eq (by decide)) ?_
      refine ⟨_, rfl, n, _, _, _, rfl, rfl, hS, at_of (j := 0) rfl rfl, rfl, _, rfl, ?_⟩
      refine if_false_of (no_eq (by decide)) ?_
      refine ⟨_, rfl, n, _, _, _, rfl, rfl, hS, at_of (j := 0) rfl rfl, rfl, _, rfl, ?_⟩
      refine if_false_of (no_eq (by decide)) ?_
      refine ⟨_, rfl, n, _, _, _, rfl, rfl, hS, at_of (j := 0) rfl rfl, rfl, _, rfl, ?_⟩
      refine if_true_of (is_eq rfl) ?_
      exact ⟨_, rfl, a, dx, _, rfl, ha, drvF_none l (by decide +kernel), _, rfl, n, _, _, _, rfl, rfl, hS, at_of (j := 1) rfl rfl, a, l, t, z, rfl, hd, hlen, hok, k⟩
end
end Dh

end
section
set_option Elab.async false
set_option maxRecDepth 100000
set_option maxHeartbeats 4000000
namespace Dh
open PySem PySem.Spec PyProof.Rows L2
open Kg70 (Stretch Told line total Broken Day Debt sixDays twoShort inWeek days toldOf within)
/-! ### the end: what the top has written -/
def StandI (K : PySem.W.Frag) (x : Str) (n : Int) : Prop := ∃ t, PySem.W.nsIn K mainGlobals x = some (some (.int n t))
theorem StandI.at {K : PySem.W.Frag} {h : Heap} {mg : Str → Option Value} {x : Str} {n : Int} (s : StandI K x n) (X : K.In h) (G : h.Ns mainGlobals mg) : IntG mg x n := by
  obtain ⟨t, e⟩ := s
  exact ⟨t, PySem.W.mg_of X G e⟩
structure StandC (K : PySem.W.Frag) (C : Addr) : Prop where
  pg : PySem.W.plainGet K C Str.empty = true
  hd : PySem.W.hasDictIn K C = true
  po : PySem.W.plainOver K C = true
  sa : PySem.W.findIn K (.ref C) "__setattr__" = some (some (.builtin "object.__setattr__"))
  mks : PySem.W.makesIn K C = true
  kc : PySem.W.keepIn K (.ref C) = true
theorem StandC.cls {K : PySem.W.Frag} {C : Addr} (s : StandC K C) : Cls K C := ⟨s.pg, s.hd, s.po, s.sa⟩
def StandF (K : PySem.W.Frag) (x : Str) (st : Stmt) : Prop := ∃ (f : Addr) (oc : Value) (od : Option Addr) (kV doc pm : Value) (an : Option Addr) (cdv ct : Value) (sl : Array (Option Value)),
  PySem.W.nsIn K mainGlobals x = some (some (.ref f)) ∧ K.lookup f = some ⟨oc, od, .func (PySem.W.fnOf x x (defArgs st) (defBody st) (defScope st) .none kV doc pm an cdv ct), sl⟩ ∧ PySem.W.codeIn K cdv x = true ∧ PySem.W.keepIn K (.ref f) = true
def StandM (K : PySem.W.Frag) (C : Addr) (x q : Str) (st : Stmt) : Prop := ∃ (f : Addr) (oc : Value) (od : Option Addr) (kV doc pm : Value) (an : Option Addr) (cdv ct : Value) (sl : Array (Option Value)),
  PySem.W.findIn K (.ref C) x = some (some (.ref f)) ∧ PySem.W.isFn K (.ref f) = true ∧ K.lookup f = some ⟨oc, od, .func (PySem.W.fnOf x q (defArgs st) (defBody st) (defScope st) .none kV doc pm an cdv ct), sl⟩ ∧ PySem.W.codeIn K cdv q = true ∧ PySem.W.keepIn K (.ref f) = true
theorem stI {K : PySem.W.Frag} {x : Str} {n : Int} {t : Tok} (a : PySem.W.nsIn K mainGlobals x = some (some (.int n t))) : StandI K x n := ⟨t, a⟩
theorem stF {K : PySem.W.Frag} {x : Str} {st : Stmt} {f : Addr} {oc : Value} {od : Option Addr} {kV doc pm : Value} {an : Option Addr} {cdv ct : Value} {sl : Array (Option Value)} (a : PySem.W.nsIn K mainGlobals x = some (some (.ref f)))
    (l : K.lookup f = some ⟨oc, od, .func (PySem.W.fnOf x x (defArgs st) (defBody st) (defScope st) .none kV doc pm an cdv ct), sl⟩) (c : PySem.W.codeIn K cdv x = true) (kp : PySem.W.keepIn K (.ref f) = true) : StandF K x st := ⟨f, oc, od, kV, doc, pm, an, cdv, ct, sl, a, l, c, kp⟩
theorem stM {K : PySem.W.Frag} {C : Addr} {x q : Str} {st : Stmt} {f : Addr} {oc : Value} {od : Option Addr} {kV doc pm : Value} {an : Option Addr} {cdv ct : Value} {sl : Array (Option Value)} (a : PySem.W.findIn K (.ref C) x = some (some (.ref f))) (i : PySem.W.isFn K (.ref f) = true)
    (l : K.lookup f = some ⟨oc, od, .func (PySem.W.fnOf x q (defArgs st) (defBody st) (defScope st) .none kV doc pm an cdv ct), sl⟩) (c : PySem.W.codeIn K cdv q = true) (kp : PySem.W.keepIn K (.ref f) = true) : StandM K C x q st := ⟨f, oc, od, kV, doc, pm, an, cdv, ct, sl, a, i, l, c, kp⟩
section
variable {P : Program} {w : World} {K : PySem.W.Frag} {mg : Str → Option Value} {base h : Heap} {C : Addr} {x q : Str} {st : Stmt} {k : Nat} {ps : List Str} {sp : Sp}
theorem kn_mk (X : K.In h) (G : h.Ns mainGlobals mg) (S : StandF K x st)
    (hb : ∀ (kV doc pm : Value) (an : Option Addr) (cdv ct : Value) (us : List Value), us.length = ps.length → bindArgs (PySem.W.fnOf x x (defArgs st) (defBody st) (defScope st) .none kV doc pm an cdv ct) ⟨us, []⟩ = pure (ps.zip us))
    (ok : ∀ f fd, Fun K x x st f fd → FnOk P w K mg base CX0 k f fd ps sp) : Kn P w K mg base k x ps sp := by
  obtain ⟨f, oc, od, kV, doc, pm, an, cdv, ct, sl, a, l, c, kp⟩ := S
  have F := fun_mk (st := st) l c kp
  exact ⟨f, _, ok f _ F, PySem.W.mg_of X G a, kp, F.binds hb⟩
theorem km_mk (S : StandM K C x q st)
    (hb : ∀ (kV doc pm : Value) (an : Option Addr) (cdv ct : Value) (us : List Value), us.length = ps.length → bindArgs (PySem.W.fnOf x q (defArgs st) (defBody st) (defScope st) .none kV doc pm an cdv ct) ⟨us, []⟩ = pure (ps.zip us))
    (ok : ∀ f fd, Fun K x q st f fd → FnOk P w K mg base CX0 k f fd ps sp) : Km P w K mg base C k x ps sp := by
  obtain ⟨f, oc, od, kV, doc, pm, an, cdv, ct, sl, a, i, l, c, kp⟩ := S
  have F := fun_mk (st := st) l c kp
  exact ⟨f, _, ok f _ F, ⟨a, i, kp⟩, F.binds hb⟩
theorem ki_mk (s : StandC K C) (S : StandM K C "__init__" q st)
    (hb : ∀ (kV doc pm : Value) (an : Option Addr) (cdv ct : Value) (us : List Value), us.length = ps.length → bindArgs (PySem.W.fnOf "__init__" q (defArgs st) (defBody st) (defScope st) .none kV doc pm an cdv ct) ⟨us, []⟩ = pure (ps.zip us))
    (ok : ∀ f fd, Fun K "__init__" q st f fd → FnOk P w K mg base CX0 k f fd ps sp) : Ki P w K mg base C k ps sp := by
  obtain ⟨f, oc, od, kV, doc, pm, an, cdv, ct, sl, a, i, l, c, kp⟩ := S
  have F := fun_mk (st := st) l c kp
  exact ⟨f, _, ok f _ F, ⟨s.mks, a, i, s.kc⟩, F.binds hb⟩
end
structure TopF (K : PySem.W.Frag) (C_Spell C_Day C_Driver : Addr) : Prop where
  g_Spell : PySem.W.nsIn K mainGlobals "Spell" = some (some (.ref C_Spell))
  g_Day : PySem.W.nsIn K mainGlobals "Day" = some (some (.ref C_Day))
  g_Driver : PySem.W.nsIn K mainGlobals "Driver" = some (some (.ref C_Driver))
  c_Spell : StandC K C_Spell
  n_Spell_driving : PySem.W.findIn K (.ref C_Spell) "driving" = some none
  n_Spell_over_at : PySem.W.findIn K (.ref C_Spell) "over_at" = some none
  n_Spell_had_first_part : PySem.W.findIn K (.ref C_Spell) "had_first_part" = some none
  c_Day : StandC K C_Day
  n_Day_start : PySem.W.findIn K (.ref C_Day) "start" = some none
  n_Day_driving : PySem.W.findIn K (.ref C_Day) "driving" = some none
  n_Day_had_rest_ahead : PySem.W.findIn K (.ref C_Day) "had_rest_ahead" = some none
  n_Day_ended : PySem.W.findIn K (.ref C_Day) "ended" = some none
  n_Day_rest_start : PySem.W.findIn K (.ref C_Day) "rest_start" = some none
  n_Day_rest_stop : PySem.W.findIn K (.ref C_Day) "rest_stop" = some none
  c_Driver : StandC K C_Driver
  n_Driver_told : PySem.W.findIn K (.ref C_Driver) "told" = some none
  i_REST : StandI K "REST" (0)
  i_DRIVING : StandI K "DRIVING" (1)
  i_OTHER_WORK : StandI K "OTHER_WORK" (2)
  i_WHOLE_BREAK : StandI K "WHOLE_BREAK" (45)
  i_FIRST_PART : StandI K "FIRST_PART" (15)
  i_SECOND_PART : StandI K "SECOND_PART" (30)
  i_MOST_DRIVING_breaks : StandI K "MOST_DRIVING_breaks" (270)
  i_WEEK_weeks : StandI K "WEEK_weeks" (10080)
  i_MOST_IN_ONE : StandI K "MOST_IN_ONE" (3360)
  i_MOST_IN_TWO : StandI K "MOST_IN_TWO" (5400)
  i_WEEKLY_REST : StandI K "WEEKLY_REST" (1440)
  i_WHOLE_WEEKLY_REST : StandI K "WHOLE_WEEKLY_REST" (2700)
  i_SPARING_REST : StandI K "SPARING_REST" (540)
  i_LONGEST_WITHOUT : StandI K "LONGEST_WITHOUT" (8640)
  i_WEEKS_TO_MAKE_UP : StandI K "WEEKS_TO_MAKE_UP" (3)
  i_DAY : StandI K "DAY" (1440)
  i_DAY_REST : StandI K "DAY_REST" (540)
  i_WHOLE_REST : StandI K "WHOLE_REST" (660)
  i_REST_AHEAD : StandI K "REST_AHEAD" (180)
  i_USUAL_DRIVING : StandI K "USUAL_DRIVING" (540)
  i_MOST_DRIVING_daily : StandI K "MOST_DRIVING_daily" (600)
  i_MOST_LONG_DAYS : StandI K "MOST_LONG_DAYS" (2)
  i_MOST_SHORT_RESTS : StandI K "MOST_SHORT_RESTS" (3)
  i_WHOLE : StandI K "WHOLE" (0)
  i_SHORT : StandI K "SHORT" (1)
  i_TOO_SHORT : StandI K "TOO_SHORT" (2)
  i_UNDECIDED : StandI K "UNDECIDED" (3)
  i_NO_DAY : StandI K "NO_DAY" (-1)
  i_MOST_TOLD : StandI K "MOST_TOLD" (400)
  i_MOST_MINUTES : StandI K "MOST_MINUTES" (20000)
  i_LAST_WEEK : StandI K "LAST_WEEK" (1000)
  i_NOT_ALLOWED : StandI K "NOT_ALLOWED" (-1)
  i_TOO_MANY : StandI K "TOO_MANY" (-5)
  i_BEGIN : StandI K "BEGIN" (1)
  i_ADD : StandI K "ADD" (2)
  i_DROP : StandI K "DROP" (3)
  i_REPORT : StandI K "REPORT" (4)
  i_NOW : StandI K "NOW" (5)
  i_DAYS : StandI K "DAYS" (6)
  i_WEEK_hours : StandI K "WEEK_hours" (7)
  b_enumerate : PySem.W.nsIn K mainGlobals "enumerate" = some none
  b_len : PySem.W.nsIn K mainGlobals "len" = some none
  b_max : PySem.W.nsIn K mainGlobals "max" = some none
  b_min : PySem.W.nsIn K mainGlobals "min" = some none
  b_range : PySem.W.nsIn K mainGlobals "range" = some none
  b_sorted : PySem.W.nsIn K mainGlobals "sorted" = some none
  b_sum : PySem.W.nsIn K mainGlobals "sum" = some none
  f_stretches_of : StandF K "stretches_of" s_stretches_of
  f_end_of : StandF K "end_of" s_end_of
  f_first_work : StandF K "first_work" s_first_work
  m_Spell_init : StandM K C_Spell "__init__" "Spell.__init__" s_Spell_init
  m_Spell_drive : StandM K C_Spell "drive" "Spell.drive" s_Spell_drive
  m_Spell_is_ended_by : StandM K C_Spell "is_ended_by" "Spell.is_ended_by" s_Spell_is_ended_by
  f_spells_of : StandF K "spells_of" s_spells_of
  f_since_whole_break : StandF K "since_whole_break" s_since_whole_break
  f_missed_breaks : StandF K "missed_breaks" s_missed_breaks
  f_driving_by_week : StandF K "driving_by_week" s_driving_by_week
  f_share_out : StandF K "share_out" s_share_out
  f_driving_in_week : StandF K "driving_in_week" s_driving_in_week
  f_week_going_on : StandF K "week_going_on" s_week_going_on
  f_overdriven_weeks : StandF K "overdriven_weeks" s_overdriven_weeks
  f_rests_behind_work : StandF K "rests_behind_work" s_rests_behind_work
  f_weekly_rests : StandF K "weekly_rests" s_weekly_rests
  f_is_short : StandF K "is_short" s_is_short
  f_lacking : StandF K "lacking" s_lacking
  f_late_weekly_rests : StandF K "late_weekly_rests" s_late_weekly_rests
  f_twice_short_weekly_rests : StandF K "twice_short_weekly_rests" s_twice_short_weekly_rests
  f_spare_of : StandF K "spare_of" s_spare_of
  f_due_minute : StandF K "due_minute" s_due_minute
  f_debts_left : StandF K "debts_left" s_debts_left
  f_weekly_rests_not_made_up_for : StandF K "weekly_rests_not_made_up_for" s_weekly_rests_not_made_up_for
  m_Day_init : StandM K C_Day "__init__" "Day.__init__" s_Day_init
  m_Day_take_rest : StandM K C_Day "take_rest" "Day.take_rest" s_Day_take_rest
  m_Day_counted_rest : StandM K C_Day "counted_rest" "Day.counted_rest" s_Day_counted_rest
  m_Day_rest_kind : StandM K C_Day "rest_kind" "Day.rest_kind" s_Day_rest_kind
  m_Day_ends_in_weekly_rest : StandM K C_Day "ends_in_weekly_rest" "Day.ends_in_weekly_rest" s_Day_ends_in_weekly_rest
  f_days_of : StandF K "days_of" s_days_of
  f_day_going_on : StandF K "day_going_on" s_day_going_on
  f_overdriven_days : StandF K "overdriven_days" s_overdriven_days
  f_too_short_rests : StandF K "too_short_rests" s_too_short_rests
  f_surplus_short_rests : StandF K "surplus_short_rests" s_surplus_short_rests
  f_are_stretches : StandF K "are_stretches" s_are_stretches
  f_all_broken : StandF K "all_broken" s_all_broken
  m_Driver_init : StandM K C_Driver "__init__" "Driver.__init__" s_Driver_init
  m_Driver_begin : StandM K C_Driver "begin" "Driver.begin" s_Driver_begin
  m_Driver_add : StandM K C_Driver "add" "Driver.add" s_Driver_add
  m_Driver_drop : StandM K C_Driver "drop" "Driver.drop" s_Driver_drop
  m_Driver_report : StandM K C_Driver "report" "Driver.report" s_Driver_report
  m_Driver_now : StandM K C_Driver "now" "Driver.now" s_Driver_now
  m_Driver_days : StandM K C_Driver "days" "Driver.days" s_Driver_days
  m_Driver_week : StandM K C_Driver "week" "Driver.week" s_Driver_week
  f_length_of_call : StandF K "length_of_call" s_length_of_call
  f_answer : StandF K "answer" s_answer
  f_answers : StandF K "answers" s_answers
theorem all_mk {P : Program} {w : World} {K : PySem.W.Frag} {h : Heap} {mg : Str → Option Value} {fa C_Spell C_Day C_Driver : Addr} (X : K.In h) (G : h.Ns mainGlobals mg) (hfa : mg "answers" = some (.ref fa)) (t : TopF K C_Spell C_Day C_Driver) :
    ∃ fd : FuncData, (∀ (s : Shared) (us : List Value), us.length = (["calls"] : List Str).length → BindsTo s fd ⟨us, []⟩ ((["calls"] : List Str).zip us)) ∧ ∀ base : Heap, K.In base → base.Ns mainGlobals mg → FnOk P w K mg base CX0 8 fa fd ["calls"] (spAnswers K) := by
  obtain ⟨f, oc, od, kV, doc, pm, an, cdv, ct, sl, a, l, c, kp⟩ := t.f_answers
  have e := hfa.symm.trans (PySem.W.mg_of X G a)
  cases e
  have F := fun_mk (st := s_answers) l c kp
  have T : Txt K mg C_Spell C_Day C_Driver := {
    c_REST := t.i_REST.at X G
    c_DRIVING := t.i_DRIVING.at X G
    c_OTHER_WORK := t.i_OTHER_WORK.at X G
    c_WHOLE_BREAK := t.i_WHOLE_BREAK.at X G
    c_FIRST_PART := t.i_FIRST_PART.at X G
    c_SECOND_PART := t.i_SECOND_PART.at X G
    c_MOST_DRIVING_breaks := t.i_MOST_DRIVING_breaks.at X G
    c_WEEK_weeks := t.i_WEEK_weeks.at X G
    c_MOST_IN_ONE := t.i_MOST_IN_ONE.at X G
    c_MOST_IN_TWO := t.i_MOST_IN_TWO.at X G
    c_WEEKLY_REST := t.i_WEEKLY_REST.at X G
    c_WHOLE_WEEKLY_REST := t.i_WHOLE_WEEKLY_REST.at X G
    c_SPARING_REST := t.i_SPARING_REST.at X G
    c_LONGEST_WITHOUT := t.i_LONGEST_WITHOUT.at X G
    c_WEEKS_TO_MAKE_UP := t.i_WEEKS_TO_MAKE_UP.at X G
    c_DAY := t.i_DAY.at X G
    c_DAY_REST := t.i_DAY_REST.at X G
    c_WHOLE_REST := t.i_WHOLE_REST.at X G
    c_REST_AHEAD := t.i_REST_AHEAD.at X G
    c_USUAL_DRIVING := t.i_USUAL_DRIVING.at X G
    c_MOST_DRIVING_daily := t.i_MOST_DRIVING_daily.at X G
    c_MOST_LONG_DAYS := t.i_MOST_LONG_DAYS.at X G
    c_MOST_SHORT_RESTS := t.i_MOST_SHORT_RESTS.at X G
    c_WHOLE := t.i_WHOLE.at X G
    c_SHORT := t.i_SHORT.at X G
    c_TOO_SHORT := t.i_TOO_SHORT.at X G
    c_UNDECIDED := t.i_UNDECIDED.at X G
    c_NO_DAY := t.i_NO_DAY.at X G
    c_MOST_TOLD := t.i_MOST_TOLD.at X G
    c_MOST_MINUTES := t.i_MOST_MINUTES.at X G
    c_LAST_WEEK := t.i_LAST_WEEK.at X G
    c_NOT_ALLOWED := t.i_NOT_ALLOWED.at X G
    c_TOO_MANY := t.i_TOO_MANY.at X G
    c_BEGIN := t.i_BEGIN.at X G
    c_ADD := t.i_ADD.at X G
    c_DROP := t.i_DROP.at X G
    c_REPORT := t.i_REPORT.at X G
    c_NOW := t.i_NOW.at X G
    c_DAYS := t.i_DAYS.at X G
    c_WEEK_hours := t.i_WEEK_hours.at X G
    b_enumerate := PySem.W.mg_none_of X G t.b_enumerate
    b_len := PySem.W.mg_none_of X G t.b_len
    b_max := PySem.W.mg_none_of X G t.b_max
    b_min := PySem.W.mg_none_of X G t.b_min
    b_range := PySem.W.mg_none_of X G t.b_range
    b_sorted := PySem.W.mg_none_of X G t.b_sorted
    b_sum := PySem.W.mg_none_of X G t.b_sum
    g_Spell := PySem.W.mg_of X G t.g_Spell
    cl_Spell := t.c_Spell.cls
    n_Spell_driving := t.n_Spell_driving
    n_Spell_over_at := t.n_Spell_over_at
    n_Spell_had_first_part := t.n_Spell_had_first_part
    g_Day := PySem.W.mg_of X G t.g_Day
    cl_Day := t.c_Day.cls
    n_Day_start := t.n_Day_start
    n_Day_driving := t.n_Day_driving
    n_Day_had_rest_ahead := t.n_Day_had_rest_ahead
    n_Day_ended := t.n_Day_ended
    n_Day_rest_start := t.n_Day_rest_start
    n_Day_rest_stop := t.n_Day_rest_stop
    g_Driver := PySem.W.mg_of X G t.g_Driver
    cl_Driver := t.c_Driver.cls
    n_Driver_told := t.n_Driver_told }
  refine ⟨PySem.W.fnOf "answers" "answers" (defArgs s_answers) (defBody s_answers) (defScope s_answers) .none kV doc pm an cdv ct, fun s us hu => match us, hu with | [_], _ => .of_eq rfl, fun base _ _ => ?_⟩
  have D_end_of : Kn P w K mg base 1 "end_of" ["told"] (spEnd K) := kn_mk X G t.f_end_of (fun _ _ _ _ _ _ us hl => match us, hl with | [_], _ => rfl) fun f fd F => ok_end_of F T
  have D_first_work : Kn P w K mg base 1 "first_work" ["stretches"] (spFirst K) := kn_mk X G t.f_first_work (fun _ _ _ _ _ _ us hl => match us, hl with | [_], _ => rfl) fun f fd F => ok_first_work F T
  have D_stretches_of : Kn P w K mg base 1 "stretches_of" ["told"] (spStr K) := kn_mk X G t.f_stretches_of (fun _ _ _ _ _ _ us hl => match us, hl with | [_], _ => rfl) fun f fd F => ok_stretches_of F T
  have D_is_short : Kn P w K mg base 1 "is_short" ["start", "stop", "end"] (spShort) := kn_mk X G t.f_is_short (fun _ _ _ _ _ _ us hl => match us, hl with | [_, _, _], _ => rfl) fun f fd F => ok_is_short F T
  have D_lacking : Kn P w K mg base 1 "lacking" ["start", "stop"] (spLack) := kn_mk X G t.f_lacking (fun _ _ _ _ _ _ us hl => match us, hl with | [_, _], _ => rfl) fun f fd F => ok_lacking F T
  have D_spare_of : Kn P w K mg base 1 "spare_of" ["minutes"] (spSpare) := kn_mk X G t.f_spare_of (fun _ _ _ _ _ _ us hl => match us, hl with | [_], _ => rfl) fun f fd F => ok_spare_of F T
  have D_due_minute : Kn P w K mg base 1 "due_minute" ["stop"] (spDue) := kn_mk X G t.f_due_minute (fun _ _ _ _ _ _ us hl => match us, hl with | [_], _ => rfl) fun f fd F => ok_due_minute F T
  have D_rests_behind_work : Kn P w K mg base 2 "rests_behind_work" ["stretches"] (spRests K) := kn_mk X G t.f_rests_behind_work (fun _ _ _ _ _ _ us hl => match us, hl with | [_], _ => rfl) fun f fd F => ok_rests_behind_work F T D_first_work
  have D_weekly_rests : Kn P w K mg base 1 "weekly_rests" ["rests"] (spWeekly K) := kn_mk X G t.f_weekly_rests (fun _ _ _ _ _ _ us hl => match us, hl with | [_], _ => rfl) fun f fd F => ok_weekly_rests F T
  have D_late_weekly_rests : Kn P w K mg base 3 "late_weekly_rests" ["stretches", "end"] (spBroken K late) := kn_mk X G t.f_late_weekly_rests (fun _ _ _ _ _ _ us hl => match us, hl with | [_, _], _ => rfl) fun f fd F => ok_late_weekly_rests F T D_first_work D_rests_behind_work D_weekly_rests
  have D_twice_short_weekly_rests : Kn P w K mg base 3 "twice_short_weekly_rests" ["stretches", "end"] (spBroken K twice) := kn_mk X G t.f_twice_short_weekly_rests (fun _ _ _ _ _ _ us hl => match us, hl with | [_, _], _ => rfl) fun f fd F => ok_twice_short_weekly_rests F T D_rests_behind_work D_weekly_rests D_is_short D_lacking
  have D_debts_left : Kn P w K mg base 1 "debts_left" ["debts", "start", "spare"] (spDebts K) := kn_mk X G t.f_debts_left (fun _ _ _ _ _ _ us hl => match us, hl with | [_, _, _], _ => rfl) fun f fd F => ok_debts_left F T
  have D_weekly_rests_not_made_up_for : Kn P w K mg base 3 "weekly_rests_not_made_up_for" ["stretches", "end"] (spBroken K unpaid) := kn_mk X G t.f_weekly_rests_not_made_up_for (fun _ _ _ _ _ _ us hl => match us, hl with | [_, _], _ => rfl) fun f fd F => ok_weekly_rests_not_made_up_for F T D_rests_behind_work D_debts_left D_is_short D_lacking D_spare_of D_due_minute
  have D_share_out : Kn P w K mg base 1 "share_out" ["driven", "start", "stop"] (spShare) := kn_mk X G t.f_share_out (fun _ _ _ _ _ _ us hl => match us, hl with | [_, _, _], _ => rfl) fun f fd F => ok_share_out F T
  have D_driving_by_week : Kn P w K mg base 2 "driving_by_week" ["stretches"] (spByWeek K) := kn_mk X G t.f_driving_by_week (fun _ _ _ _ _ _ us hl => match us, hl with | [_], _ => rfl) fun f fd F => ok_driving_by_week F T D_share_out
  have D_overdriven_weeks : Kn P w K mg base 3 "overdriven_weeks" ["stretches"] (spWeeks K) := kn_mk X G t.f_overdriven_weeks (fun _ _ _ _ _ _ us hl => match us, hl with | [_], _ => rfl) fun f fd F => ok_overdriven_weeks F T D_driving_by_week
  have D_Spell_init : Ki P w K mg base C_Spell 1 ["self"] (spSpellInit C_Spell) := ki_mk t.c_Spell t.m_Spell_init (fun _ _ _ _ _ _ us hl => match us, hl with | [_], _ => rfl) fun f fd F => ok_Spell_init F T
  have D_Spell_drive : Km P w K mg base C_Spell 1 "drive" ["self", "start", "stop"] (spDrive C_Spell) := km_mk t.m_Spell_drive (fun _ _ _ _ _ _ us hl => match us, hl with | [_, _, _], _ => rfl) fun f fd F => ok_Spell_drive F T
  have D_Spell_is_ended_by : Km P w K mg base C_Spell 1 "is_ended_by" ["self", "minutes"] (spEnded C_Spell) := km_mk t.m_Spell_is_ended_by (fun _ _ _ _ _ _ us hl => match us, hl with | [_, _], _ => rfl) fun f fd F => ok_Spell_is_ended_by F T
  have D_spells_of : Kn P w K mg base 3 "spells_of" ["stretches"] (spSpells K C_Spell) := kn_mk X G t.f_spells_of (fun _ _ _ _ _ _ us hl => match us, hl with | [_], _ => rfl) fun f fd F => ok_spells_of F T D_Spell_init D_Spell_drive D_Spell_is_ended_by
  have D_missed_breaks : Kn P w K mg base 4 "missed_breaks" ["stretches"] (spMissed K) := kn_mk X G t.f_missed_breaks (fun _ _ _ _ _ _ us hl => match us, hl with | [_], _ => rfl) fun f fd F => ok_missed_breaks F T D_spells_of
  have D_Day_init : Ki P w K mg base C_Day 1 ["self", "start"] (spDayInit C_Day) := ki_mk t.c_Day t.m_Day_init (fun _ _ _ _ _ _ us hl => match us, hl with | [_, _], _ => rfl) fun f fd F => ok_Day_init F T
  have D_Day_take_rest : Km P w K mg base C_Day 1 "take_rest" ["self", "start", "stop"] (spTake C_Day) := km_mk t.m_Day_take_rest (fun _ _ _ _ _ _ us hl => match us, hl with | [_, _, _], _ => rfl) fun f fd F => ok_Day_take_rest F T
  have D_Day_counted_rest : Km P w K mg base C_Day 1 "counted_rest" ["self"] (spCounted C_Day) := km_mk t.m_Day_counted_rest (fun _ _ _ _ _ _ us hl => match us, hl with | [_], _ => rfl) fun f fd F => ok_Day_counted_rest F T
  have D_Day_rest_kind : Km P w K mg base C_Day 2 "rest_kind" ["self", "end"] (spKind C_Day) := km_mk t.m_Day_rest_kind (fun _ _ _ _ _ _ us hl => match us, hl with | [_, _], _ => rfl) fun f fd F => ok_Day_rest_kind F T D_Day_counted_rest
  have D_Day_ends_in_weekly_rest : Km P w K mg base C_Day 1 "ends_in_weekly_rest" ["self"] (spWeeklyDay C_Day) := km_mk t.m_Day_ends_in_weekly_rest (fun _ _ _ _ _ _ us hl => match us, hl with | [_], _ => rfl) fun f fd F => ok_Day_ends_in_weekly_rest F T
  have D_days_of : Kn P w K mg base 3 "days_of" ["stretches"] (spDays K C_Day) := kn_mk X G t.f_days_of (fun _ _ _ _ _ _ us hl => match us, hl with | [_], _ => rfl) fun f fd F => ok_days_of F T D_Day_init D_Day_take_rest
  have D_overdriven_days : Kn P w K mg base 1 "overdriven_days" ["days"] (spTwo K C_Day) := kn_mk X G t.f_overdriven_days (fun _ _ _ _ _ _ us hl => match us, hl with | [_], _ => rfl) fun f fd F => ok_overdriven_days F T
  have D_too_short_rests : Kn P w K mg base 3 "too_short_rests" ["days", "end"] (spPerDay K C_Day three) := kn_mk X G t.f_too_short_rests (fun _ _ _ _ _ _ us hl => match us, hl with | [_, _], _ => rfl) fun f fd F => ok_too_short_rests F T D_Day_counted_rest D_Day_rest_kind
  have D_surplus_short_rests : Kn P w K mg base 3 "surplus_short_rests" ["days", "end"] (spPerDay K C_Day fun e l => four e 0 l) := kn_mk X G t.f_surplus_short_rests (fun _ _ _ _ _ _ us hl => match us, hl with | [_, _], _ => rfl) fun f fd F => ok_surplus_short_rests F T D_Day_counted_rest D_Day_rest_kind D_Day_ends_in_weekly_rest
  have D_are_stretches : Kn P w K mg base 1 "are_stretches" ["numbers"] (spAre K) := kn_mk X G t.f_are_stretches (fun _ _ _ _ _ _ us hl => match us, hl with | [_], _ => rfl) fun f fd F => ok_are_stretches F T
  have D_all_broken : Kn P w K mg base 5 "all_broken" ["told"] (spAll K) := kn_mk X G t.f_all_broken (fun _ _ _ _ _ _ us hl => match us, hl with | [_], _ => rfl) fun f fd F => ok_all_broken F T D_stretches_of D_end_of D_days_of D_missed_breaks D_overdriven_days D_too_short_rests D_surplus_short_rests D_late_weekly_rests D_twice_short_weekly_rests D_weekly_rests_not_made_up_for D_overdriven_weeks
  have D_Driver_init : Ki P w K mg base C_Driver 1 ["self"] (spDrvInit C_Driver) := ki_mk t.c_Driver t.m_Driver_init (fun _ _ _ _ _ _ us hl => match us, hl with | [_], _ => rfl) fun f fd F => ok_Driver_init F T
  have D_Driver_begin : Km P w K mg base C_Driver 1 "begin" ["self"] (spBegin C_Driver) := km_mk t.m_Driver_begin (fun _ _ _ _ _ _ us hl => match us, hl with | [_], _ => rfl) fun f fd F => ok_Driver_begin F T
  have D_Driver_add : Km P w K mg base C_Driver 2 "add" ["self", "numbers"] (spAdd K C_Driver) := km_mk t.m_Driver_add (fun _ _ _ _ _ _ us hl => match us, hl with | [_, _], _ => rfl) fun f fd F => ok_Driver_add F T D_are_stretches D_end_of
  have D_Driver_drop : Km P w K mg base C_Driver 2 "drop" ["self", "n"] (spDrop C_Driver) := km_mk t.m_Driver_drop (fun _ _ _ _ _ _ us hl => match us, hl with | [_, _], _ => rfl) fun f fd F => ok_Driver_drop F T D_end_of
  have D_Driver_report : Km P w K mg base C_Driver 6 "report" ["self"] (spReport C_Driver) := km_mk t.m_Driver_report (fun _ _ _ _ _ _ us hl => match us, hl with | [_], _ => rfl) fun f fd F => ok_Driver_report F T D_all_broken
  have D_since_whole_break : Kn P w K mg base 4 "since_whole_break" ["stretches"] (spSince K) := kn_mk X G t.f_since_whole_break (fun _ _ _ _ _ _ us hl => match us, hl with | [_], _ => rfl) fun f fd F => ok_since_whole_break F T D_spells_of
  have D_driving_in_week : Kn P w K mg base 3 "driving_in_week" ["stretches", "week"] (spInWeek K) := kn_mk X G t.f_driving_in_week (fun _ _ _ _ _ _ us hl => match us, hl with | [_, _], _ => rfl) fun f fd F => ok_driving_in_week F T D_driving_by_week
  have D_week_going_on : Kn P w K mg base 4 "week_going_on" ["stretches", "end"] (spWeekOn K) := kn_mk X G t.f_week_going_on (fun _ _ _ _ _ _ us hl => match us, hl with | [_, _], _ => rfl) fun f fd F => ok_week_going_on F T D_driving_in_week
  have D_day_going_on : Kn P w K mg base 1 "day_going_on" ["days"] (spDayOn K C_Day) := kn_mk X G t.f_day_going_on (fun _ _ _ _ _ _ us hl => match us, hl with | [_], _ => rfl) fun f fd F => ok_day_going_on F T
  have D_Driver_now : Km P w K mg base C_Driver 5 "now" ["self"] (spNow C_Driver) := km_mk t.m_Driver_now (fun _ _ _ _ _ _ us hl => match us, hl with | [_], _ => rfl) fun f fd F => ok_Driver_now F T D_stretches_of D_end_of D_days_of D_since_whole_break D_day_going_on D_week_going_on
  have D_Driver_days : Km P w K mg base C_Driver 4 "days" ["self"] (spDaysCall C_Driver) := km_mk t.m_Driver_days (fun _ _ _ _ _ _ us hl => match us, hl with | [_], _ => rfl) fun f fd F => ok_Driver_days F T D_stretches_of D_end_of D_days_of D_Day_counted_rest D_Day_rest_kind
  have D_Driver_week : Km P w K mg base C_Driver 4 "week" ["self", "k"] (spWeekCall C_Driver) := km_mk t.m_Driver_week (fun _ _ _ _ _ _ us hl => match us, hl with | [_, _], _ => rfl) fun f fd F => ok_Driver_week F T D_stretches_of D_driving_in_week
  have D_length_of_call : Kn P w K mg base 1 "length_of_call" ["calls", "at"] (spLen K) := kn_mk X G t.f_length_of_call (fun _ _ _ _ _ _ us hl => match us, hl with | [_, _], _ => rfl) fun f fd F => ok_length_of_call F T
  have D_answer : Kn P w K mg base 7 "answer" ["driver", "call"] (spAnswer K C_Driver) := kn_mk X G t.f_answer (fun _ _ _ _ _ _ us hl => match us, hl with | [_, _], _ => rfl) fun f fd F => ok_answer F T D_Driver_begin D_Driver_add D_Driver_drop D_Driver_report D_Driver_now D_Driver_days D_Driver_week
  exact ok_answers F T D_Driver_init D_length_of_call D_answer
end Dh

end
section
set_option Elab.async false
set_option maxRecDepth 100000
set_option maxHeartbeats 4000000
open PySem PySem.W PyProof.Rows
set_option maxRecDepth 100000 in
set_option maxHeartbeats 0 in
theorem PySem.Challenge.cw_drivershours_s01_answers_holds : PySem.Challenge.rw_drivershours_s01_answers.Holds := by
  w_on; k_headS; (case hw => exact ⟨[.list [.int 4]], by decide +kernel, by decide +kernel⟩)
  k_fillS
  refine L2.walk_specK (r := PySem.Challenge.rw_drivershours_s01_answers) (k := 8) (CX := L2.CX0) (ps := ["calls"]) (sp := Dh.spAnswers) (by decide +kernel) rfl rfl ⟨rfl, by decide, by decide⟩ (fun w h Y => PySem.W.kIn_of Y) ?F ?S (fun _ _ _ _ z => z)
  case F =>
    intro w mg fa h Y KX G hmg
    refine' Dh.all_mk KX G hmg (Dh.TopF.mk ?g_Spell ?g_Day ?g_Driver ?c_Spell ?n_Spell_driving ?n_Spell_over_at ?n_Spell_had_first_part ?c_Day ?n_Day_start ?n_Day_driving ?n_Day_had_rest_ahead ?n_Day_ended ?n_Day_rest_start ?n_Day_rest_stop ?c_Driver ?n_Driver_told ?i_REST ?i_DRIVING ?i_OTHER_WORK ?i_WHOLE_BREAK ?i_FIRST_PART ?i_SECOND_PART ?i_MOST_DRIVING_breaks ?i_WEEK_weeks ?i_MOST_IN_ONE ?i_MOST_IN_TWO ?i_WEEKLY_REST ?i_WHOLE_WEEKLY_REST ?i_SPARING_REST ?i_LONGEST_WITHOUT ?i_WEEKS_TO_MAKE_UP ?i_DAY ?i_DAY_REST ?i_WHOLE_REST ?i_REST_AHEAD ?i_USUAL_DRIVING ?i_MOST_DRIVING_daily ?i_MOST_LONG_DAYS ?i_MOST_SHORT_RESTS ?i_WHOLE ?i_SHORT ?i_TOO_SHORT ?i_UNDECIDED ?i_NO_DAY ?i_MOST_TOLD ?i_MOST_MINUTES ?i_LAST_WEEK ?i_NOT_ALLOWED ?i_TOO_MANY ?i_BEGIN ?i_ADD ?i_DROP ?i_REPORT ?i_NOW ?i_DAYS ?i_WEEK_hours ?b_enumerate ?b_len ?b_max ?b_min ?b_range ?b_sorted ?b_sum ?f_stretches_of ?f_end_of ?f_first_work ?m_Spell_init ?m_Spell_drive ?m_Spell_is_ended_by ?f_spells_of ?f_since_whole_break ?f_missed_breaks ?f_driving_by_week ?f_share_out ?f_driving_in_week ?f_week_going_on ?f_overdriven_weeks ?f_rests_behind_work ?f_weekly_rests ?f_is_short ?f_lacking ?f_late_weekly_rests ?f_twice_short_weekly_rests ?f_spare_of ?f_due_minute ?f_debts_left ?f_weekly_rests_not_made_up_for ?m_Day_init ?m_Day_take_rest ?m_Day_counted_rest ?m_Day_rest_kind ?m_Day_ends_in_weekly_rest ?f_days_of ?f_day_going_on ?f_overdriven_days ?f_too_short_rests ?f_surplus_short_rests ?f_are_stretches ?f_all_broken ?m_Driver_init ?m_Driver_begin ?m_Driver_add ?m_Driver_drop ?m_Driver_report ?m_Driver_now ?m_Driver_days ?m_Driver_week ?f_length_of_call ?f_answer ?f_answers)
    (case g_Spell => k_is)
    (case g_Day => k_is)
    (case g_Driver => k_is)
    (case c_Spell => (refine' ⟨?a1, ?a2, ?a3, ?a4, ?a5, ?a6⟩; (case a1 => k_is); (case a2 => k_is); (case a3 => k_is); (case a4 => k_is); (case a5 => k_is); (case a6 => k_is)))
    (case n_Spell_driving => k_is)
    (case n_Spell_over_at => k_is)
    (case n_Spell_had_first_part => k_is)
    (case c_Day => (refine' ⟨?a1, ?a2, ?a3, ?a4, ?a5, ?a6⟩; (case a1 => k_is); (case a2 => k_is); (case a3 => k_is); (case a4 => k_is); (case a5 => k_is); (case a6 => k_is)))
    (case n_Day_start => k_is)
    (case n_Day_driving => k_is)
    (case n_Day_had_rest_ahead => k_is)
    (case n_Day_ended => k_is)
    (case n_Day_rest_start => k_is)
    (case n_Day_rest_stop => k_is)
    (case c_Driver => (refine' ⟨?a1, ?a2, ?a3, ?a4, ?a5, ?a6⟩; (case a1 => k_is); (case a2 => k_is); (case a3 => k_is); (case a4 => k_is); (case a5 => k_is); (case a6 => k_is)))
    (case n_Driver_told => k_is)
    (case i_REST => (refine' Dh.stI ?a1; (case a1 => k_is)))
    (case i_DRIVING => (refine' Dh.stI ?a1; (case a1 => k_is)))
    (case i_OTHER_WORK => (refine' Dh.stI ?a1; (case a1 => k_is)))
    (case i_WHOLE_BREAK => (refine' Dh.stI ?a1; (case a1 => k_is)))
    (case i_FIRST_PART => (refine' Dh.stI ?a1; (case a1 => k_is)))
    (case i_SECOND_PART => (refine' Dh.stI ?a1; (case a1 => k_is)))
    (case i_MOST_DRIVING_breaks => (refine' Dh.stI ?a1; (case a1 => k_is)))
    (case i_WEEK_weeks => (refine' Dh.stI ?a1; (case a1 => k_is)))
    (case i_MOST_IN_ONE => (refine' Dh.stI ?a1; (case a1 => k_is)))
    (case i_MOST_IN_TWO => (refine' Dh.stI ?a1; (case a1 => k_is)))
    (case i_WEEKLY_REST => (refine' Dh.stI ?a1; (case a1 => k_is)))
    (case i_WHOLE_WEEKLY_REST => (refine' Dh.stI ?a1; (case a1 => k_is)))
    (case i_SPARING_REST => (refine' Dh.stI ?a1; (case a1 => k_is)))
    (case i_LONGEST_WITHOUT => (refine' Dh.stI ?a1; (case a1 => k_is)))
    (case i_WEEKS_TO_MAKE_UP => (refine' Dh.stI ?a1; (case a1 => k_is)))
    (case i_DAY => (refine' Dh.stI ?a1; (case a1 => k_is)))
    (case i_DAY_REST => (refine' Dh.stI ?a1; (case a1 => k_is)))
    (case i_WHOLE_REST => (refine' Dh.stI ?a1; (case a1 => k_is)))
    (case i_REST_AHEAD => (refine' Dh.stI ?a1; (case a1 => k_is)))
    (case i_USUAL_DRIVING => (refine' Dh.stI ?a1; (case a1 => k_is)))
    (case i_MOST_DRIVING_daily => (refine' Dh.stI ?a1; (case a1 => k_is)))
    (case i_MOST_LONG_DAYS => (refine' Dh.stI ?a1; (case a1 => k_is)))
    (case i_MOST_SHORT_RESTS => (refine' Dh.stI ?a1; (case a1 => k_is)))
    (case i_WHOLE => (refine' Dh.stI ?a1; (case a1 => k_is)))
    (case i_SHORT => (refine' Dh.stI ?a1; (case a1 => k_is)))
    (case i_TOO_SHORT => (refine' Dh.stI ?a1; (case a1 => k_is)))
    (case i_UNDECIDED => (refine' Dh.stI ?a1; (case a1 => k_is)))
    (case i_NO_DAY => (refine' Dh.stI ?a1; (case a1 => k_is)))
    (case i_MOST_TOLD => (refine' Dh.stI ?a1; (case a1 => k_is)))
    (case i_MOST_MINUTES => (refine' Dh.stI ?a1; (case a1 => k_is)))
    (case i_LAST_WEEK => (refine' Dh.stI ?a1; (case a1 => k_is)))
    (case i_NOT_ALLOWED => (refine' Dh.stI ?a1; (case a1 => k_is)))
    (case i_TOO_MANY => (refine' Dh.stI ?a1; (case a1 => k_is)))
    (case i_BEGIN => (refine' Dh.stI ?a1; (case a1 => k_is)))
    (case i_ADD => (refine' Dh.stI ?a1; (case a1 => k_is)))
    (case i_DROP => (refine' Dh.stI ?a1; (case a1 => k_is)))
    (case i_REPORT => (refine' Dh.stI ?a1; (case a1 => k_is)))
    (case i_NOW => (refine' Dh.stI ?a1; (case a1 => k_is)))
    (case i_DAYS => (refine' Dh.stI ?a1; (case a1 => k_is)))
    (case i_WEEK_hours => (refine' Dh.stI ?a1; (case a1 => k_is)))
    (case b_enumerate => k_is)
    (case b_len => k_is)
    (case b_max => k_is)
    (case b_min => k_is)
    (case b_range => k_is)
    (case b_sorted => k_is)
    (case b_sum => k_is)
    (case f_stretches_of => (refine' Dh.stF ?a1 ?a2 ?a3 ?a4; (case a1 => k_is); (case a2 => k_is); (case a3 => k_is); (case a4 => k_is)))
    (case f_end_of => (refine' Dh.stF ?a1 ?a2 ?a3 ?a4; (case a1 => k_is); (case a2 => k_is); (case a3 => k_is); (case a4 => k_is)))
    (case f_first_work => (refine' Dh.stF ?a1 ?a2 ?a3 ?a4; (case a1 => k_is); (case a2 => k_is); (case a3 => k_is); (case a4 => k_is)))
    (case m_Spell_init => (refine' Dh.stM ?a1 ?a2 ?a3 ?a4 ?a5; (case a1 => k_is); (case a2 => k_is); (case a3 => k_is); (case a4 => k_is); (case a5 => k_is)))
    (case m_Spell_drive => (refine' Dh.stM ?a1 ?a2 ?a3 ?a4 ?a5; (case a1 => k_is); (case a2 => k_is); (case a3 => k_is); (case a4 => k_is); (case a5 => k_is)))
    (case m_Spell_is_ended_by => (refine' Dh.stM ?a1 ?a2 ?a3 ?a4 ?a5; (case a1 => k_is); (case a2 => k_is); (case a3 => k_is); (case a4 => k_is); (case a5 => k_is)))
    (case f_spells_of => (refine' Dh.stF ?a1 ?a2 ?a3 ?a4; (case a1 => k_is); (case a2 => k_is); (case a3 => k_is); (case a4 => k_is)))
    (case f_since_whole_break => (refine' Dh.stF ?a1 ?a2 ?a3 ?a4; (case a1 => k_is); (case a2 => k_is); (case a3 => k_is); (case a4 => k_is)))
    (case f_missed_breaks => (refine' Dh.stF ?a1 ?a2 ?a3 ?a4; (case a1 => k_is); (case a2 => k_is); (case a3 => k_is); (case a4 => k_is)))
    (case f_driving_by_week => (refine' Dh.stF ?a1 ?a2 ?a3 ?a4; (case a1 => k_is); (case a2 => k_is); (case a3 => k_is); (case a4 => k_is)))
    (case f_share_out => (refine' Dh.stF ?a1 ?a2 ?a3 ?a4; (case a1 => k_is); (case a2 => k_is); (case a3 => k_is); (case a4 => k_is)))
    (case f_driving_in_week => (refine' Dh.stF ?a1 ?a2 ?a3 ?a4; (case a1 => k_is); (case a2 => k_is); (case a3 => k_is); (case a4 => k_is)))
    (case f_week_going_on => (refine' Dh.stF ?a1 ?a2 ?a3 ?a4; (case a1 => k_is); (case a2 => k_is); (case a3 => k_is); (case a4 => k_is)))
    (case f_overdriven_weeks => (refine' Dh.stF ?a1 ?a2 ?a3 ?a4; (case a1 => k_is); (case a2 => k_is); (case a3 => k_is); (case a4 => k_is)))
    (case f_rests_behind_work => (refine' Dh.stF ?a1 ?a2 ?a3 ?a4; (case a1 => k_is); (case a2 => k_is); (case a3 => k_is); (case a4 => k_is)))
    (case f_weekly_rests => (refine' Dh.stF ?a1 ?a2 ?a3 ?a4; (case a1 => k_is); (case a2 => k_is); (case a3 => k_is); (case a4 => k_is)))
    (case f_is_short => (refine' Dh.stF ?a1 ?a2 ?a3 ?a4; (case a1 => k_is); (case a2 => k_is); (case a3 => k_is); (case a4 => k_is)))
    (case f_lacking => (refine' Dh.stF ?a1 ?a2 ?a3 ?a4; (case a1 => k_is); (case a2 => k_is); (case a3 => k_is); (case a4 => k_is)))
    (case f_late_weekly_rests => (refine' Dh.stF ?a1 ?a2 ?a3 ?a4; (case a1 => k_is); (case a2 => k_is); (case a3 => k_is); (case a4 => k_is)))
    (case f_twice_short_weekly_rests => (refine' Dh.stF ?a1 ?a2 ?a3 ?a4; (case a1 => k_is); (case a2 => k_is); (case a3 => k_is); (case a4 => k_is)))
    (case f_spare_of => (refine' Dh.stF ?a1 ?a2 ?a3 ?a4; (case a1 => k_is); (case a2 => k_is); (case a3 => k_is); (case a4 => k_is)))
    (case f_due_minute => (refine' Dh.stF ?a1 ?a2 ?a3 ?a4; (case a1 => k_is); (case a2 => k_is); (case a3 => k_is); (case a4 => k_is)))
    (case f_debts_left => (refine' Dh.stF ?a1 ?a2 ?a3 ?a4; (case a1 => k_is); (case a2 => k_is); (case a3 => k_is); (case a4 => k_is)))
    (case f_weekly_rests_not_made_up_for => (refine' Dh.stF ?a1 ?a2 ?a3 ?a4; (case a1 => k_is); (case a2 => k_is); (case a3 => k_is); (case a4 => k_is)))
    (case m_Day_init => (refine' Dh.stM ?a1 ?a2 ?a3 ?a4 ?a5; (case a1 => k_is); (case a2 => k_is); (case a3 => k_is); (case a4 => k_is); (case a5 => k_is)))
    (case m_Day_take_rest => (refine' Dh.stM ?a1 ?a2 ?a3 ?a4 ?a5; (case a1 => k_is); (case a2 => k_is); (case a3 => k_is); (case a4 => k_is); (case a5 => k_is)))
    (case m_Day_counted_rest => (refine' Dh.stM ?a1 ?a2 ?a3 ?a4 ?a5; (case a1 => k_is); (case a2 => k_is); (case a3 => k_is); (case a4 => k_is); (case a5 => k_is)))
    (case m_Day_rest_kind => (refine' Dh.stM ?a1 ?a2 ?a3 ?a4 ?a5; (case a1 => k_is); (case a2 => k_is); (case a3 => k_is); (case a4 => k_is); (case a5 => k_is)))
    (case m_Day_ends_in_weekly_rest => (refine' Dh.stM ?a1 ?a2 ?a3 ?a4 ?a5; (case a1 => k_is); (case a2 => k_is); (case a3 => k_is); (case a4 => k_is); (case a5 => k_is)))
    (case f_days_of => (refine' Dh.stF ?a1 ?a2 ?a3 ?a4; (case a1 => k_is); (case a2 => k_is); (case a3 => k_is); (case a4 => k_is)))
    (case f_day_going_on => (refine' Dh.stF ?a1 ?a2 ?a3 ?a4; (case a1 => k_is); (case a2 => k_is); (case a3 => k_is); (case a4 => k_is)))
    (case f_overdriven_days => (refine' Dh.stF ?a1 ?a2 ?a3 ?a4; (case a1 => k_is); (case a2 => k_is); (case a3 => k_is); (case a4 => k_is)))
    (case f_too_short_rests => (refine' Dh.stF ?a1 ?a2 ?a3 ?a4; (case a1 => k_is); (case a2 => k_is); (case a3 => k_is); (case a4 => k_is)))
    (case f_surplus_short_rests => (refine' Dh.stF ?a1 ?a2 ?a3 ?a4; (case a1 => k_is); (case a2 => k_is); (case a3 => k_is); (case a4 => k_is)))
    (case f_are_stretches => (refine' Dh.stF ?a1 ?a2 ?a3 ?a4; (case a1 => k_is); (case a2 => k_is); (case a3 => k_is); (case a4 => k_is)))
    (case f_all_broken => (refine' Dh.stF ?a1 ?a2 ?a3 ?a4; (case a1 => k_is); (case a2 => k_is); (case a3 => k_is); (case a4 => k_is)))
    (case m_Driver_init => (refine' Dh.stM ?a1 ?a2 ?a3 ?a4 ?a5; (case a1 => k_is); (case a2 => k_is); (case a3 => k_is); (case a4 => k_is); (case a5 => k_is)))
    (case m_Driver_begin => (refine' Dh.stM ?a1 ?a2 ?a3 ?a4 ?a5; (case a1 => k_is); (case a2 => k_is); (case a3 => k_is); (case a4 => k_is); (case a5 => k_is)))
    (case m_Driver_add => (refine' Dh.stM ?a1 ?a2 ?a3 ?a4 ?a5; (case a1 => k_is); (case a2 => k_is); (case a3 => k_is); (case a4 => k_is); (case a5 => k_is)))
    (case m_Driver_drop => (refine' Dh.stM ?a1 ?a2 ?a3 ?a4 ?a5; (case a1 => k_is); (case a2 => k_is); (case a3 => k_is); (case a4 => k_is); (case a5 => k_is)))
    (case m_Driver_report => (refine' Dh.stM ?a1 ?a2 ?a3 ?a4 ?a5; (case a1 => k_is); (case a2 => k_is); (case a3 => k_is); (case a4 => k_is); (case a5 => k_is)))
    (case m_Driver_now => (refine' Dh.stM ?a1 ?a2 ?a3 ?a4 ?a5; (case a1 => k_is); (case a2 => k_is); (case a3 => k_is); (case a4 => k_is); (case a5 => k_is)))
    (case m_Driver_days => (refine' Dh.stM ?a1 ?a2 ?a3 ?a4 ?a5; (case a1 => k_is); (case a2 => k_is); (case a3 => k_is); (case a4 => k_is); (case a5 => k_is)))
    (case m_Driver_week => (refine' Dh.stM ?a1 ?a2 ?a3 ?a4 ?a5; (case a1 => k_is); (case a2 => k_is); (case a3 => k_is); (case a4 => k_is); (case a5 => k_is)))
    (case f_length_of_call => (refine' Dh.stF ?a1 ?a2 ?a3 ?a4; (case a1 => k_is); (case a2 => k_is); (case a3 => k_is); (case a4 => k_is)))
    (case f_answer => (refine' Dh.stF ?a1 ?a2 ?a3 ?a4; (case a1 => k_is); (case a2 => k_is); (case a3 => k_is); (case a4 => k_is)))
    (case f_answers => (refine' Dh.stF ?a1 ?a2 ?a3 ?a4; (case a1 => k_is); (case a2 => k_is); (case a3 => k_is); (case a4 => k_is)))
  case S =>
    intro K H xs a hO hwi hask hx
    cases hx with
    | cons h1 h2 =>
      cases h2
      cases h1 with
      | lst hs ha =>
        have e := L2.ints_dw a.1 _ ha
        subst e
        have q : ((Codec.inLen 0 30000 a.1 && a.1.all (Codec.inInt (-2147483648) 2147483647)) && true) = true := hwi
        rw [Bool.and_eq_true, Bool.and_eq_true] at q
        exact ⟨_, a.1, rfl, hs, (Codec.inNat_iff.mp q.1.1).2, hask, fun H' p hp => .lst (L2.SqL.of hp) (L2.dw_ints _)⟩

end
