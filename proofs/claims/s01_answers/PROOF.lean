import PyProof.Rows.All
import Wide.All
import OpenK.AllK
import Wide.FinOn
import PyProof.EqAt
import PyProof.EqKinds
import PyProof.TupleCall
import Open.SpecLaws
import KE.OsGo
import KE.KLam
import KE.KNestM
import KE.SortKeyHeap
import KE.DataCmp
import HandS.Base
import HandS.Call
import HandS.List
import HandS.Comp
import HandS.Iter
import HandS.Text
import HandS.Exc
import HandS.Codes
import HandS.TryOnly
import HandS.Lambda
import HandS.Nested
import HandS.Conv
import HandS.TupLe
import HandS.Words
import HandS.WordsList
import PyProof.MinMaxWalk
import HandS.ForSpec
import HandS.Walk
import HandS.WideBits
import HandS.CallLocal
import HandS.SortKw
import HandS.SetFor
import HandS.Remove
import HandS.Spec
import PySem.Challenge.RW_cupboardkept_s01_answers
set_option Elab.async false
set_option maxRecDepth 100000
set_option maxHeartbeats 2000000
namespace Cup
open Si89

/-! ### the first of a rising list -/
theorem find_rising {p : Nat → Bool} : ∀ {l : List Nat}, l.Pairwise (· ≤ ·) → ∀ {d : Nat}, l.find? p = some d → d ∈ l ∧ p d = true ∧ ∀ e ∈ l, p e = true → d ≤ e
  | [], _, d, h => by simp at h
  | a :: l, hl, d, h => by
    rw [List.pairwise_cons] at hl
    rw [List.find?_cons] at h
    cases hp : p a with
    | true =>
      rw [hp] at h
      have e : a = d := Option.some.inj h
      subst e
      refine ⟨List.mem_cons_self, hp, fun e he _ => ?_⟩
      rcases List.mem_cons.mp he with rfl | h2
      · exact Nat.le_refl _
      · exact hl.1 e h2
    | false =>
      rw [hp] at h
      have ⟨h1, h2, h3⟩ := find_rising hl.2 h
      refine ⟨List.mem_cons_of_mem _ h1, h2, fun e he pe => ?_⟩
      rcases List.mem_cons.mp he with rfl | h4
      · rw [hp] at pe; cases pe
      · exact h3 e h4 pe

/-- two rising lists, the one within the other: the first is the same if each place of the longer has one of the shorter that is not later -/
theorem find_same {p : Nat → Bool} {l m : List Nat} (hl : l.Pairwise (· ≤ ·)) (hm : m.Pairwise (· ≤ ·)) (hs : ∀ d ∈ l, d ∈ m)
    (hb : ∀ d ∈ m, p d = true → ∃ e ∈ l, e ≤ d ∧ p e = true) : l.find? p = m.find? p := by
  cases e1 : l.find? p with
  | none =>
    symm
    rw [List.find?_eq_none] at e1 ⊢
    intro d hd pd
    obtain ⟨e, he, _, pe⟩ := hb d hd pd
    exact e1 e he pe
  | some d =>
    obtain ⟨a1, a2, a3⟩ := find_rising hl e1
    cases e2 : m.find? p with
    | none =>
      rw [List.find?_eq_none] at e2
      exact absurd a2 (e2 d (hs d a1))
    | some f =>
      obtain ⟨b1, b2, b3⟩ := find_rising hm e2
      obtain ⟨e, he, hle, pe⟩ := hb f b1 b2
      have h1 := a3 e he pe
      have h2 := b3 d (hs d a1) a2
      rw [show d = f by omega]

/-! ### the program's own words over a list of things -/
def there (d : Nat) (t : Thing) : Bool := decide (t.comes ≤ d) && decide (d < t.asked)
def takenOf (ts : List Thing) (d : Nat) : Nat := (ts.filter (there d)).length
def comesOf (ts : List Thing) : List Nat := ts.map fun t => t.comes
def worthOf (ts : List Thing) : Nat := (ts.map fun t => t.worth).sum
/-- the things of a set -/
def pick (c : Cupboard) (s : Nat) : List Thing := (c.members s).map c.thing
/-- the first day on which too many take a place, over a rising list of the days on which things come -/
def firstOf (ts : List Thing) (places : Nat) (days : List Nat) : Option Nat := days.find? fun d => decide (places < takenOf ts d)

theorem taken_pick (c : Cupboard) (s d : Nat) : takenOf (pick c s) d = c.taken s d := by
  unfold takenOf pick Cupboard.taken
  rw [List.filter_map, List.length_map]
  rfl
theorem worth_pick (c : Cupboard) (s : Nat) : worthOf (pick c s) = c.worth s := by
  unfold worthOf pick Cupboard.worth
  rw [List.map_map]
  rfl
theorem size_pick (c : Cupboard) (s : Nat) : (pick c s).length = c.size s := by
  unfold pick Cupboard.size
  rw [List.length_map]

/-- the greatest of some numbers that hold -/
theorem greatest {α : Type} (f : α → Nat) : ∀ (l : List α), l ≠ [] → ∃ a ∈ l, ∀ b ∈ l, f b ≤ f a
  | [], h => absurd rfl h
  | [a], _ => ⟨a, List.mem_cons_self, fun b hb => by
      rcases List.mem_cons.mp hb with rfl | h
      · exact Nat.le_refl _
      · cases h⟩
  | a :: b :: l, _ => by
    obtain ⟨m, hm, hle⟩ := greatest f (b :: l) (by simp)
    by_cases h : f m ≤ f a
    · refine ⟨a, List.mem_cons_self, fun x hx => ?_⟩
      rcases List.mem_cons.mp hx with rfl | h2
      · exact Nat.le_refl _
      · exact Nat.le_trans (hle x h2) h
    · refine ⟨m, List.mem_cons_of_mem _ hm, fun x hx => ?_⟩
      rcases List.mem_cons.mp hx with rfl | h2
      · omega
      · exact hle x h2

/-- on a day on which some take a place: on the last day till then on which one of these came no fewer do -/
theorem day_back (ts : List Thing) (d : Nat) (h : 0 < takenOf ts d) : ∃ e ∈ comesOf ts, e ≤ d ∧ takenOf ts d ≤ takenOf ts e := by
  have hne : ts.filter (there d) ≠ [] := by
    intro z
    unfold takenOf at h
    rw [z] at h
    exact absurd h (by simp)
  obtain ⟨t, ht, hle⟩ := greatest (fun t : Thing => t.comes) _ hne
  rw [List.mem_filter] at ht
  obtain ⟨ht1, ht2⟩ := ht
  unfold there at ht2
  rw [Bool.and_eq_true, decide_eq_true_eq, decide_eq_true_eq] at ht2
  refine ⟨t.comes, List.mem_map.mpr ⟨t, ht1, rfl⟩, ht2.1, ?_⟩
  unfold takenOf
  rw [← List.countP_eq_length_filter, ← List.countP_eq_length_filter]
  refine List.countP_mono_left fun u hu pu => ?_
  have h3 := hle u (List.mem_filter.mpr ⟨hu, pu⟩)
  unfold there at pu ⊢
  rw [Bool.and_eq_true, decide_eq_true_eq, decide_eq_true_eq] at pu ⊢
  exact ⟨h3, by omega⟩

theorem days_mem (c : Cupboard) (d : Nat) : d ∈ c.days ↔ d ∈ comesOf c.things := by
  unfold Cupboard.days comesOf
  rw [List.mem_mergeSort, List.mem_eraseDups]
theorem days_rising (c : Cupboard) : c.days.Pairwise (· ≤ ·) := by
  unfold Cupboard.days
  have := List.pairwise_mergeSort (le := fun a b : Nat => decide (a ≤ b)) (fun a b c h1 h2 => by simp at *; omega) (fun a b => by simp; omega) ((c.things.map fun t => t.comes).eraseDups)
  exact this.imp fun h => by simpa using h

theorem thing_mem {c : Cupboard} {i : Nat} (h : i < c.things.length) : c.thing i ∈ c.things := by
  unfold Cupboard.thing
  rw [List.getD_eq_getElem?_getD, List.getElem?_eq_getElem h]
  exact List.getElem_mem h
theorem pick_mem {c : Cupboard} {s : Nat} {t : Thing} (h : t ∈ pick c s) : t ∈ c.things := by
  unfold pick Cupboard.members Cupboard.all_ at h
  obtain ⟨i, hi, rfl⟩ := List.mem_map.mp h
  exact thing_mem (List.mem_range.mp (List.mem_filter.mp hi).1)

/-- the program looks at the set's own days, in rising order -/
theorem first_full (c : Cupboard) (s : Nat) {days : List Nat} (hp : days.Perm (comesOf (pick c s))) (hr : days.Pairwise (· ≤ ·)) :
    firstOf (pick c s) c.places days = c.full s := by
  unfold firstOf Cupboard.full
  have e : (fun d => decide (c.places < takenOf (pick c s) d)) = fun d => decide (c.places < c.taken s d) := by
    funext d
    rw [taken_pick]
  rw [e]
  refine find_same hr (days_rising c) (fun d hd => ?_) (fun d hd pd => ?_)
  · rw [days_mem]
    obtain ⟨t, ht, rfl⟩ := List.mem_map.mp (hp.mem_iff.mp hd)
    exact List.mem_map.mpr ⟨t, pick_mem ht, rfl⟩
  · rw [decide_eq_true_eq] at pd
    obtain ⟨x, hx, hle, hge⟩ := day_back (pick c s) d (by rw [taken_pick]; omega)
    refine ⟨x, hp.mem_iff.mpr hx, hle, ?_⟩
    rw [taken_pick, taken_pick] at hge
    rw [decide_eq_true_eq]
    omega

/-! ### the best of the sets, by a rank of two numbers -/
/-- the program's state in its walk over the sets: rank, set, how many are as good -/
structure Walk where
  first : Nat
  second : Nat
  set_ : Nat
  many : Nat
def Walk.begin_ : Walk := ⟨0, 0, 0, 0⟩
def Walk.turn (c : Cupboard) (f g : Nat → Nat) (w : Walk) (s : Nat) : Walk :=
  if more w.first w.second (f s) (g s) = true ∨ (c.full s).isSome = true then w
  else if more (f s) (g s) w.first w.second = true then ⟨f s, g s, s, 1⟩ else { w with many := w.many + 1 }
def Walk.run (c : Cupboard) (f g : Nat → Nat) (n : Nat) : Walk := (List.range n).foldl (Walk.turn c f g) Walk.begin_
theorem Walk.run_more (c : Cupboard) (f g : Nat → Nat) (n : Nat) : Walk.run c f g (n + 1) = Walk.turn c f g (Walk.run c f g n) n := by
  unfold Walk.run
  rw [List.range_succ, List.foldl_append]
  rfl
def Walk.best (w : Walk) : Best := ⟨w.first, w.second, w.many, w.set_⟩

/-- the specification's turn -/
def told (f g : Nat → Nat) (r : Option Best) (s : Nat) : Option Best := match r with
  | none => some ⟨f s, g s, 1, s⟩
  | some x => if more (f s) (g s) x.first x.second = true then some ⟨f s, g s, 1, s⟩ else if f s = x.first ∧ g s = x.second then some { x with many := x.many + 1 } else some x

theorem members_zero (c : Cupboard) : c.members 0 = [] := by
  unfold Cupboard.members
  rw [List.filter_eq_nil_iff]
  intro i _
  simp
theorem full_zero (c : Cupboard) : c.full 0 = none := by
  unfold Cupboard.full
  rw [List.find?_eq_none]
  intro d _ h
  rw [decide_eq_true_eq] at h
  have : c.taken 0 d = 0 := by
    unfold Cupboard.taken Cupboard.members
    simp
  omega
theorem worth_zero (c : Cupboard) : c.worth 0 = 0 := by
  unfold Cupboard.worth
  rw [members_zero]
  rfl
theorem size_zero (c : Cupboard) : c.size 0 = 0 := by
  unfold Cupboard.size
  rw [members_zero]
  rfl

theorem more_iff (a b c d : Nat) : more a b c d = true ↔ (c < a ∨ (a = c ∧ d < b)) := by
  unfold more
  simp

theorem run_told (c : Cupboard) (f g : Nat → Nat) (hf : f 0 = 0) (hg : g 0 = 0) : ∀ n, n < 2 ^ c.count →
    (((List.range (n + 1)).filter c.right).foldl (told f g) none) = some (Walk.run c f g (n + 1)).best
  | 0, h => by
    rw [Walk.run_more]
    have r0 : c.right 0 = true := by
      unfold Cupboard.right
      rw [full_zero]
      simp [Nat.pow_pos]
    have e : ((List.range 1).filter c.right) = [0] := by
      show ([0].filter c.right) = [0]
      rw [List.filter_cons_of_pos r0, List.filter_nil]
    rw [e]
    have e2 : Walk.run c f g 0 = Walk.begin_ := rfl
    rw [e2]
    unfold Walk.turn
    rw [full_zero, if_neg (by simp [more_iff, Walk.begin_]), if_neg (by simp [more_iff, hf, hg, Walk.begin_])]
    show some _ = some _
    rw [hf, hg]
    rfl
  | n + 1, h => by
    have ih := run_told c f g hf hg n (by omega)
    rw [List.range_succ, List.filter_append, List.foldl_append, ih, Walk.run_more c f g (n + 1)]
    generalize Walk.run c f g (n + 1) = w
    have er : c.right (n + 1) = (c.full (n + 1)).isNone := by
      unfold Cupboard.right
      rw [decide_eq_true h, Bool.true_and]
    unfold Walk.turn
    cases ef : c.full (n + 1) with
    | some d =>
      rw [ef] at er
      rw [List.filter_cons_of_neg (by rw [er]; simp), if_pos (show more w.first w.second (f (n + 1)) (g (n + 1)) = true ∨ (some d).isSome = true from Or.inr rfl)]
      rfl
    | none =>
      rw [ef] at er
      rw [List.filter_cons_of_pos (by rw [er]; rfl)]
      show told f g (some w.best) (n + 1) = _
      unfold told
      show (if more (f (n + 1)) (g (n + 1)) w.first w.second = true then some (Best.mk (f (n + 1)) (g (n + 1)) 1 (n + 1)) else if f (n + 1) = w.first ∧ g (n + 1) = w.second then some { w.best with many := w.many + 1 } else some w.best) = _
      by_cases h1 : more (f (n + 1)) (g (n + 1)) w.first w.second = true
      · have h2 : ¬ (more w.first w.second (f (n + 1)) (g (n + 1)) = true ∨ (none : Option Nat).isSome = true) := by
          rw [more_iff] at h1 ⊢
          simp
          omega
        rw [if_pos h1, if_neg h2, if_pos h1]
        rfl
      · rw [if_neg h1]
        by_cases h2 : more w.first w.second (f (n + 1)) (g (n + 1)) = true
        · rw [if_pos (Or.inl h2), if_neg]
          rw [more_iff] at h2
          omega
        · have h3 : ¬ (more w.first w.second (f (n + 1)) (g (n + 1)) = true ∨ (none : Option Nat).isSome = true) := by
            simp [h2]
          rw [if_neg h3, if_neg h1, if_pos]
          · rfl
          · rw [more_iff] at h1 h2
            omega

theorem bestBy_run (c : Cupboard) (f g : Nat → Nat) (hf : f 0 = 0) (hg : g 0 = 0) : c.bestBy f g = some (Walk.run c f g (2 ^ c.count)).best := by
  have hp : 0 < 2 ^ c.count := Nat.pow_pos (by omega)
  have := run_told c f g hf hg (2 ^ c.count - 1) (by omega)
  rw [Nat.sub_add_cancel hp] at this
  exact this
end Cup

namespace Cup
open Si89 (Thing Cupboard Call)

/-- a call's number and its numbers, read -/
inductive Reads : Int → List Int → Call → Prop
  | begins (n : Nat) : Reads 0 [(n : Int)] (.begins n)
  | thing (t : Thing) : Reads 1 [(t.comes : Int), (t.asked : Int), (t.worth : Int)] (.thing t)
  | check (s : Nat) : Reads 2 [(s : Int)] (.check s)
  | best : Reads 3 [] .best
  | most : Reads 4 [] .most
  | plain : Reads 5 [] .plain
  | enough : Reads 6 [] .enough
/-- how many numbers stand behind a call's number -/
def width : Int → Nat
  | 0 => 1
  | 1 => 3
  | 2 => 1
  | _ => 0
theorem Reads.len {p : Int} {l : List Int} {q : Call} (h : Reads p l q) : l.length = width p := by
  cases h <;> rfl
theorem Reads.bound {p : Int} {l : List Int} {q : Call} (h : Reads p l q) : 0 ≤ p ∧ p ≤ 6 := by
  cases h <;> decide
/-- a list of calls, read -/
inductive Parse : List Int → List Call → Prop
  | nil : Parse [] []
  | cons {p : Int} {ns rest : List Int} {q : Call} {cs : List Call} : Reads p ns q → Parse rest cs → Parse (p :: (ns ++ rest)) (q :: cs)

def ansL (r : Si89.Ans) : List Int := r.v :: r.l
/-- what is answered, call by call -/
def played (c : Cupboard) : List Call → List Int
  | [] => []
  | q :: cs => (((ansL (Si89.step c q).2).length : Nat) : Int) :: (ansL (Si89.step c q).2 ++ played (Si89.step c q).1 cs)

theorem whole_id (c : List (List Int)) : PySi89.whole c = c := by
  unfold PySi89.whole
  split <;> rfl
theorem wholes_id (cs : List (List (List Int))) : cs.map PySi89.whole = cs := by
  have : PySi89.whole = id := funext whole_id
  rw [this, List.map_id]

theorem shape_cases {p : Int} {x : Nat × Nat} (h : PySi89.shape p = some x) : (p = 0 ∨ p = 1 ∨ p = 2 ∨ p = 3 ∨ p = 4 ∨ p = 5 ∨ p = 6) ∧ x = (width p, 0) := by
  unfold PySi89.shape at h
  by_cases h0 : p = 0
  · subst h0; exact ⟨by omega, (Option.some.inj h).symm⟩
  rw [if_neg h0] at h
  by_cases h1 : p = 1
  · subst h1; exact ⟨by omega, (Option.some.inj h).symm⟩
  rw [if_neg h1] at h
  by_cases h2 : p = 2
  · subst h2; exact ⟨by omega, (Option.some.inj h).symm⟩
  rw [if_neg h2] at h
  by_cases h3 : p = 3
  · subst h3; exact ⟨by omega, (Option.some.inj h).symm⟩
  rw [if_neg h3] at h
  by_cases h4 : p = 4
  · subst h4; exact ⟨by omega, (Option.some.inj h).symm⟩
  rw [if_neg h4] at h
  by_cases h5 : p = 5
  · subst h5; exact ⟨by omega, (Option.some.inj h).symm⟩
  rw [if_neg h5] at h
  by_cases h6 : p = 6
  · subst h6; exact ⟨by omega, (Option.some.inj h).symm⟩
  rw [if_neg h6] at h
  cases h

theorem nat_of {z : Int} (h : Si89Neutral.natural z 32 = true) : ∃ n : Nat, z = n := by
  unfold Si89Neutral.natural at h
  rw [Bool.and_eq_true, decide_eq_true_eq] at h
  exact ⟨z.toNat, (Int.toNat_of_nonneg h.1).symm⟩
theorem len1 {l : List Int} (h : l.length = 1) : ∃ a, l = [a] := by
  match l, h with
  | [a], _ => exact ⟨a, rfl⟩
theorem len3 {l : List Int} (h : l.length = 3) : ∃ a b c, l = [a, b, c] := by
  match l, h with
  | [a, b, c], _ => exact ⟨a, b, c, rfl⟩

/-- a raw call that is asked is read, and the specification plays it -/
theorem reads_of {p : Int} {ns : List Int} (hp : p = 0 ∨ p = 1 ∨ p = 2 ∨ p = 3 ∨ p = 4 ∨ p = 5 ∨ p = 6) (hl : ns.length = width p) (ha : Si89Neutral.asked1 [p :: ns] = true) :
    ∃ q, Reads p ns q ∧ Si89Neutral.callOf (p :: ns) = some q := by
  unfold Si89Neutral.asked1 at ha
  rw [Bool.and_eq_true, Bool.and_eq_true, List.all_eq_true] at ha
  obtain ⟨_, hn0, _⟩ := ha
  have hn : ∀ x ∈ ns, ∃ n : Nat, x = n := fun x hx => nat_of (hn0 x (List.mem_cons_of_mem _ hx))
  clear hn0
  rcases hp with rfl | rfl | rfl | rfl | rfl | rfl | rfl
  · obtain ⟨a, rfl⟩ := len1 hl
    obtain ⟨n, rfl⟩ := hn a (by simp)
    exact ⟨_, .begins n, rfl⟩
  · obtain ⟨a, b, c, rfl⟩ := len3 hl
    obtain ⟨x, rfl⟩ := hn a (by simp)
    obtain ⟨y, rfl⟩ := hn b (by simp)
    obtain ⟨z, rfl⟩ := hn c (by simp)
    exact ⟨_, .thing ⟨x, y, z⟩, rfl⟩
  · obtain ⟨a, rfl⟩ := len1 hl
    obtain ⟨n, rfl⟩ := hn a (by simp)
    exact ⟨_, .check n, rfl⟩
  · cases (List.length_eq_zero_iff.mp hl); exact ⟨_, .best, rfl⟩
  · cases (List.length_eq_zero_iff.mp hl); exact ⟨_, .most, rfl⟩
  · cases (List.length_eq_zero_iff.mp hl); exact ⟨_, .plain, rfl⟩
  · cases (List.length_eq_zero_iff.mp hl); exact ⟨_, .enough, rfl⟩

theorem call_of {l : List Int} {c : List (List Int)} {t : List Int} (h : PyFlat.call PySi89.shape l = some (c, t)) :
    ∃ p ns, (p = 0 ∨ p = 1 ∨ p = 2 ∨ p = 3 ∨ p = 4 ∨ p = 5 ∨ p = 6) ∧ ns.length = width p ∧ l = p :: (ns ++ t) ∧ c = [p :: ns] := by
  cases l with
  | nil => cases h
  | cons p r =>
    unfold PyFlat.call at h
    dsimp only at h
    cases e : PySi89.shape p with
    | none => rw [e] at h; cases h
    | some x =>
      obtain ⟨hp, rfl⟩ := shape_cases e
      rw [e] at h
      simp only at h
      by_cases hl : r.length < width p
      · rw [if_pos hl] at h; cases h
      · rw [if_neg hl] at h
        have h2 : some ((p :: r.take (width p)) :: ([] : List (List Int)), r.drop (width p)) = some (c, t) := h
        injection h2 with h2
        injection h2 with h3 h4
        refine ⟨p, r.take (width p), hp, by rw [List.length_take]; omega, ?_, h3.symm⟩
        rw [← h4, List.take_append_drop]

theorem parse_of : ∀ (f : Nat) (l : List Int) (raw : List (List (List Int))), PyFlat.calls PySi89.shape f l = some raw → raw.all Si89Neutral.asked1 = true →
    ∃ cs, Parse l cs ∧ cs.length = raw.length ∧ ∀ s, PyFlat.told (PyFlat.played Si89Neutral.step s raw) = played s cs
  | f, [], raw, h, _ => by
    have e : raw = [] := by
      cases f <;> exact (Option.some.inj h).symm
    subst e
    exact ⟨[], .nil, rfl, fun _ => rfl⟩
  | 0, _ :: _, raw, h, _ => by cases h
  | f + 1, p :: r, raw, h, ha => by
    unfold PyFlat.calls at h
    cases e : PyFlat.call PySi89.shape (p :: r) with
    | none => rw [e] at h; cases h
    | some x =>
      obtain ⟨c, t⟩ := x
      rw [e] at h
      simp only at h
      cases e2 : PyFlat.calls PySi89.shape f t with
      | none => rw [e2] at h; cases h
      | some cs =>
        rw [e2] at h
        have h : c :: cs = raw := Option.some.inj h
        subst h
        rw [List.all_cons, Bool.and_eq_true] at ha
        obtain ⟨p', ns, hp, hl, el, rfl⟩ := call_of e
        obtain ⟨q, hq, eq⟩ := reads_of hp hl ha.1
        obtain ⟨qs, h1, h2, h3⟩ := parse_of f t cs e2 ha.2
        rw [el]
        refine ⟨q :: qs, .cons hq h1, by rw [List.length_cons, List.length_cons, h2], fun s => ?_⟩
        have es : Si89Neutral.step s [p' :: ns] = ((Si89.step s q).1, ansL (Si89.step s q).2) := by
          show (match Si89Neutral.callOf (p' :: ns) with
            | none => (s, [])
            | some q => ((Si89.step s q).1, (Si89.step s q).2.v :: (Si89.step s q).2.l)) = _
          rw [eq]
          rfl
        show PyFlat.told ((Si89Neutral.step s [p' :: ns]).2 :: PyFlat.played Si89Neutral.step (Si89Neutral.step s [p' :: ns]).1 cs) = _
        rw [es]
        show (((ansL (Si89.step s q).2).length : Nat) : Int) :: (ansL (Si89.step s q).2) ++ PyFlat.told (PyFlat.played Si89Neutral.step (Si89.step s q).1 cs) = _
        rw [h3]
        rfl

/-- what is asked, and what is due -/
theorem asked_read {l : List Int} (h : PySi89.answers_asked l = true) : ∃ cs, Parse l cs ∧ cs.length ≤ 60 ∧ PySi89.answers l = played Si89.init cs := by
  unfold PySi89.answers_asked at h
  cases e : PyFlat.calls PySi89.shape l.length l with
  | none => rw [e] at h; cases h
  | some raw =>
    rw [e] at h
    simp only [Bool.and_eq_true] at h
    obtain ⟨⟨⟨⟨_, h60⟩, _⟩, hs⟩, _⟩ := h
    rw [wholes_id] at hs
    unfold Si89Neutral.asked at hs
    rw [Bool.and_eq_true] at hs
    obtain ⟨cs, h1, h2, h3⟩ := parse_of _ _ _ e hs.1
    refine ⟨cs, h1, ?_, ?_⟩
    · unfold PyFlat.atMost at h60
      rw [decide_eq_true_eq] at h60
      omega
    · unfold PySi89.answers PySi89.calls
      rw [e]
      show PyFlat.told (PyFlat.played Si89Neutral.step Si89Neutral.start (raw.map PySi89.whole)) = _
      rw [wholes_id]
      exact h3 _

/-- no call answers more than four numbers -/
theorem ans_len (c : Cupboard) (q : Call) : (ansL (Si89.step c q).2).length ≤ 4 := by
  have hb : ∀ x, (ansL (Si89.toldBest x)).length ≤ 4 := fun x => by
    cases x
    · exact (show 1 ≤ 4 by decide)
    · exact (show 4 ≤ 4 by decide)
  cases q with
  | begins n =>
    show (ansL (if n < 1 ∨ Si89.PLACES < n then (c, Si89.ok (-1)) else (⟨n, []⟩, Si89.ok 0)).2).length ≤ 4
    split <;> exact (show 1 ≤ 4 by decide)
  | thing t =>
    show (ansL (if t.asked ≤ t.comes ∨ Si89.DAY < t.asked ∨ Si89.WORTH < t.worth then (c, Si89.ok (-1)) else if Si89.THINGS ≤ c.count then (c, Si89.ok (-5)) else ({ c with things := c.things ++ [t] }, Si89.ok ((c.count : Nat) : Int))).2).length ≤ 4
    split
    · exact (show 1 ≤ 4 by decide)
    · split
      · exact (show 1 ≤ 4 by decide)
      · exact (show 1 ≤ 4 by decide)
  | check s =>
    show (ansL (if 2 ^ c.count ≤ s then (c, Si89.ok (-1)) else (c, match c.full s with
      | some d => (⟨-6, Si89.ints [d, c.taken s d]⟩ : Si89.Ans)
      | none => ⟨((c.worth s : Nat) : Int), Si89.ints [c.size s]⟩)).2).length ≤ 4
    split
    · exact (show 1 ≤ 4 by decide)
    · cases c.full s
      · exact (show 2 ≤ 4 by decide)
      · exact (show 3 ≤ 4 by decide)
  | best => exact hb _
  | most => exact hb _
  | plain => exact (show 3 ≤ 4 by decide)
  | enough => exact (show 1 ≤ 4 by decide)
end Cup

namespace Cup
open Si89 (Thing Cupboard)

/-! ### all of them as a set -/
theorem pick_all (c : Cupboard) : pick c (2 ^ c.count - 1) = c.things := by
  have e : c.members (2 ^ c.count - 1) = List.range c.count := by
    unfold Cupboard.members Cupboard.all_
    rw [List.filter_eq_self]
    intro i hi
    rw [Nat.testBit_two_pow_sub_one]
    exact decide_eq_true (List.mem_range.mp hi)
  unfold pick
  rw [e]
  apply List.ext_getElem?
  intro i
  rw [List.getElem?_map]
  by_cases h : i < c.things.length
  · rw [List.getElem?_range (show i < c.count from h)]
    show some (c.thing i) = _
    unfold Cupboard.thing
    rw [List.getD_eq_getElem?_getD, List.getElem?_eq_getElem h]
    rfl
  · have h1 : c.things[i]? = none := List.getElem?_eq_none (by omega)
    have h2 : (List.range c.count)[i]? = none := List.getElem?_eq_none (by rw [List.length_range]; exact Nat.le_of_not_lt h)
    rw [h1, h2]
    rfl
theorem taken_all (c : Cupboard) (d : Nat) : c.taken (2 ^ c.count - 1) d = takenOf c.things d := by
  rw [← taken_pick, pick_all]

/-! ### the greatest of some numbers -/
theorem foldl_max : ∀ (l : List Nat) (a : Nat), a ≤ l.foldl max a ∧ (∀ x ∈ l, x ≤ l.foldl max a) ∧ (l.foldl max a = a ∨ l.foldl max a ∈ l)
  | [], a => ⟨Nat.le_refl _, fun _ h => (nomatch h), .inl rfl⟩
  | x :: l, a => by
    obtain ⟨h1, h2, h3⟩ := foldl_max l (max a x)
    rw [List.foldl_cons]
    refine ⟨by omega, fun y hy => ?_, ?_⟩
    · rcases List.mem_cons.mp hy with rfl | h
      · omega
      · exact h2 y h
    · rcases h3 with h | h
      · rw [h]
        by_cases z : a ≤ x
        · exact .inr (by rw [Nat.max_eq_right z]; exact List.mem_cons_self)
        · exact .inl (Nat.max_eq_left (by omega))
      · exact .inr (List.mem_cons_of_mem _ h)
/-- what enough is: no less than on any day on which some come, and one of these numbers, or 0 -/
theorem enough_most (c : Cupboard) : (∀ t ∈ c.things, takenOf c.things t.comes ≤ c.enough) ∧ (c.enough = 0 ∨ ∃ t ∈ c.things, c.enough = takenOf c.things t.comes) := by
  unfold Cupboard.enough
  obtain ⟨_, h2, h3⟩ := foldl_max (c.days.map fun d => c.taken (2 ^ c.count - 1) d) 0
  refine ⟨fun t ht => ?_, ?_⟩
  · refine h2 _ (List.mem_map.mpr ⟨t.comes, ?_, taken_all c _⟩)
    rw [days_mem]
    exact List.mem_map.mpr ⟨t, ht, rfl⟩
  · rcases h3 with h | h
    · exact .inl h
    · obtain ⟨d, hd, e⟩ := List.mem_map.mp h
      rw [days_mem] at hd
      obtain ⟨t, ht, rfl⟩ := List.mem_map.mp hd
      exact .inr ⟨t, ht, by rw [← e, taken_all]⟩
theorem enough_is (c : Cupboard) {m : Nat} (h1 : ∀ t ∈ c.things, takenOf c.things t.comes ≤ m) (h2 : m = 0 ∨ ∃ t ∈ c.things, m = takenOf c.things t.comes) : m = c.enough := by
  obtain ⟨g1, g2⟩ := enough_most c
  have a : m ≤ c.enough := by
    rcases h2 with h | ⟨t, ht, h⟩
    · omega
    · rw [h]; exact g1 t ht
  have b : c.enough ≤ m := by
    rcases g2 with h | ⟨t, ht, h⟩
    · omega
    · rw [h]; exact h1 t ht
  omega

/-! ### sums of powers -/
theorem add_bit {x i : Nat} (h : x.testBit i = false) (j : Nat) : (x + 2 ^ i).testBit j = (x.testBit j || decide (i = j)) := by
  have hp : 0 < 2 ^ i := Nat.pow_pos (by omega)
  have h2 : x / 2 ^ i % 2 = 0 := by
    rw [Nat.testBit_eq_decide_div_mod_eq, decide_eq_false_iff_not] at h
    omega
  obtain ⟨b, hb⟩ : ∃ b, x / 2 ^ i = 2 * b := ⟨x / 2 ^ i / 2, by omega⟩
  have hr : x % 2 ^ i < 2 ^ i := Nat.mod_lt _ hp
  have e1 : x = 2 ^ i * (2 * b) + x % 2 ^ i := by rw [← hb]; exact (Nat.div_add_mod x _).symm
  have e2 : x + 2 ^ i = 2 ^ i * (2 * b + 1) + x % 2 ^ i := by rw [Nat.mul_add, Nat.mul_one]; omega
  rw [e2, Nat.testBit_two_pow_mul_add _ hr]
  conv => rhs; rw [e1, Nat.testBit_two_pow_mul_add _ hr]
  by_cases z : j < i
  · rw [if_pos z, if_pos z, decide_eq_false (by omega), Bool.or_false]
  · rw [if_neg z, if_neg z]
    by_cases w : i = j
    · subst w
      rw [Nat.sub_self, decide_eq_true rfl, Bool.or_true, Nat.testBit_zero]
      simp
    · rw [decide_eq_false w, Bool.or_false]
      obtain ⟨k, hk⟩ : ∃ k, j - i = k + 1 := ⟨j - i - 1, by omega⟩
      rw [hk, Nat.testBit_succ, Nat.testBit_succ, show (2 * b + 1) / 2 = b by omega, show 2 * b / 2 = b by omega]
/-- of different numbers: the bits of the sum of their powers are they -/
theorem bits_sum : ∀ (l : List Nat), l.Nodup → ∀ j, ((l.map fun i => 2 ^ i).sum).testBit j = decide (j ∈ l)
  | [], _, j => by simp
  | i :: l, h, j => by
    rw [List.nodup_cons] at h
    have ih := bits_sum l h.2
    rw [List.map_cons, List.sum_cons, Nat.add_comm, add_bit (by rw [ih]; exact decide_eq_false h.1), ih, Bool.eq_iff_iff]
    simp only [Bool.or_eq_true, decide_eq_true_eq, List.mem_cons]
    constructor
    · rintro (z | z)
      · exact .inr z
      · exact .inl z.symm
    · rintro (z | z)
      · exact .inr z.symm
      · exact .inl z
/-- the members of a set told so -/
theorem members_sum (c : Cupboard) {l : List Nat} (h : l.Nodup) (hb : ∀ i ∈ l, i < c.count) : (c.members ((l.map fun i => 2 ^ i).sum)).Perm l := by
  have nd : (c.members ((l.map fun i => 2 ^ i).sum)).Nodup := List.nodup_range.filter _
  refine (List.perm_ext_iff_of_nodup nd h).mpr fun i => ?_
  unfold Cupboard.members Cupboard.all_
  rw [List.mem_filter, List.mem_range, bits_sum l h, decide_eq_true_eq]
  exact ⟨fun z => z.2, fun z => ⟨hb i z, z⟩⟩
theorem size_sum (c : Cupboard) {l : List Nat} (h : l.Nodup) (hb : ∀ i ∈ l, i < c.count) : c.size ((l.map fun i => 2 ^ i).sum) = l.length := (members_sum c h hb).length_eq
theorem worth_sum (c : Cupboard) {l : List Nat} (h : l.Nodup) (hb : ∀ i ∈ l, i < c.count) : c.worth ((l.map fun i => 2 ^ i).sum) = (l.map fun i => (c.thing i).worth).sum :=
  ((members_sum c h hb).map fun i => (c.thing i).worth).sum_nat

/-! ### the order in which they come -/
def ahead (c : Cupboard) (i k : Nat) : Prop := (c.thing i).comes < (c.thing k).comes ∨ ((c.thing i).comes = (c.thing k).comes ∧ i ≤ k)
theorem line_perm (c : Cupboard) : c.line.Perm (List.range c.count) := List.mergeSort_perm _ _
theorem line_ahead (c : Cupboard) : c.line.Pairwise (ahead c) := by
  have := List.pairwise_mergeSort (le := fun i k : Nat => decide ((c.thing i).comes < (c.thing k).comes) || ((c.thing i).comes == (c.thing k).comes && decide (i ≤ k)))
    (fun a b d h1 h2 => by simp at *; omega) (fun a b => by simp; omega) c.all_
  refine this.imp fun {a b} h => ?_
  unfold ahead
  simpa using h
/-- two lists of the same, both in an order without ties, are one -/
theorem order_one {α : Type} {r : α → α → Prop} (anti : ∀ a b, r a b → r b a → a = b) {l m : List α} (hp : l.Perm m) (hl : l.Pairwise r) (hm : m.Pairwise r) : l = m :=
  hp.eq_of_pairwise (fun a b _ _ h1 h2 => anti a b h1 h2) hl hm
theorem line_one (c : Cupboard) {l : List Nat} (hp : l.Perm (List.range c.count)) (hl : l.Pairwise (ahead c)) : l = c.line :=
  order_one (r := ahead c) (fun a b h1 h2 => by unfold ahead at h1 h2; omega) (hp.trans (line_perm c).symm) hl (line_ahead c)
theorem line_nodup (c : Cupboard) : c.line.Nodup := (line_perm c).nodup_iff.mpr List.nodup_range
theorem line_mem (c : Cupboard) (i : Nat) : i ∈ c.line ↔ i < c.count := by
  rw [(line_perm c).mem_iff, List.mem_range]

/-! ### the one that is asked for last -/
def later (c : Cupboard) (j k : Nat) : Prop := (c.thing j).asked < (c.thing k).asked ∨ ((c.thing j).asked = (c.thing k).asked ∧ j ≤ k)
theorem last_later (c : Cupboard) : ∀ (l : List Nat), l ≠ [] → ∃ k, c.last l = some k ∧ k ∈ l ∧ ∀ j ∈ l, later c j k
  | [], h => absurd rfl h
  | i :: l, _ => by
    by_cases hl : l = []
    · subst hl
      refine ⟨i, rfl, List.mem_cons_self, fun j hj => ?_⟩
      rcases List.mem_cons.mp hj with rfl | z
      · exact .inr ⟨rfl, Nat.le_refl _⟩
      · cases z
    · obtain ⟨k, h1, h2, h3⟩ := last_later c l hl
      have e : c.last (i :: l) = if (c.thing k).asked < (c.thing i).asked ∨ ((c.thing k).asked = (c.thing i).asked ∧ k < i) then some i else some k := by
        show (match c.last l with
          | none => some i
          | some k => if (c.thing k).asked < (c.thing i).asked ∨ ((c.thing k).asked = (c.thing i).asked ∧ k < i) then some i else some k) = _
        rw [h1]
      rw [e]
      by_cases z : (c.thing k).asked < (c.thing i).asked ∨ ((c.thing k).asked = (c.thing i).asked ∧ k < i)
      · rw [if_pos z]
        refine ⟨i, rfl, List.mem_cons_self, fun j hj => ?_⟩
        rcases List.mem_cons.mp hj with rfl | w
        · exact .inr ⟨rfl, Nat.le_refl _⟩
        · have := h3 j w
          unfold later at *
          omega
      · rw [if_neg z]
        refine ⟨k, rfl, List.mem_cons_of_mem _ h2, fun j hj => ?_⟩
        rcases List.mem_cons.mp hj with rfl | w
        · unfold later
          omega
        · exact h3 j w
theorem last_is (c : Cupboard) {l : List Nat} {k : Nat} (hk : k ∈ l) (h : ∀ j ∈ l, later c j k) : c.last l = some k := by
  obtain ⟨m, h1, h2, h3⟩ := last_later c l (fun z => by rw [z] at hk; cases hk)
  have a := h m h2
  have b := h3 k hk
  rw [h1]
  unfold later at a b
  have : m = k := by omega
  rw [this]

/-! ### what is kept in the end: different ones, all of the cupboard's -/
/-- one that comes -/
def come (c : Cupboard) (kept : List Nat) (i : Nat) : List Nat :=
  if c.places < ((kept ++ [i]).filter (c.there (c.thing i).comes)).length then
    match c.last ((kept ++ [i]).filter (c.there (c.thing i).comes)) with
    | some k => (kept ++ [i]).filter fun j => j != k
    | none => kept ++ [i]
  else kept ++ [i]
theorem plainFrom_fold (c : Cupboard) : ∀ (l kept : List Nat), c.plainFrom kept l = l.foldl (come c) kept
  | [], _ => rfl
  | i :: l, kept => by
    rw [List.foldl_cons, ← plainFrom_fold c l]
    show (if c.places < ((kept ++ [i]).filter (c.there (c.thing i).comes)).length then c.plainFrom (match c.last ((kept ++ [i]).filter (c.there (c.thing i).comes)) with
      | some k => (kept ++ [i]).filter fun j => j != k
      | none => kept ++ [i]) l else c.plainFrom (kept ++ [i]) l) = c.plainFrom (come c kept i) l
    unfold come
    by_cases h : c.places < ((kept ++ [i]).filter (c.there (c.thing i).comes)).length
    · rw [if_pos h, if_pos h]
    · rw [if_neg h, if_neg h]
theorem come_sub (c : Cupboard) (kept : List Nat) (i : Nat) : (come c kept i).Sublist (kept ++ [i]) := by
  unfold come
  split
  · split
    · exact List.filter_sublist
    · exact List.Sublist.refl _
  · exact List.Sublist.refl _
theorem fold_sub (c : Cupboard) : ∀ (l kept : List Nat), (l.foldl (come c) kept).Sublist (kept ++ l)
  | [], kept => by
    rw [List.append_nil]
    exact List.Sublist.refl _
  | i :: l, kept => by
    rw [List.foldl_cons]
    have e : kept ++ i :: l = (kept ++ [i]) ++ l := by simp
    rw [e]
    exact (fold_sub c l _).trans ((come_sub c kept i).append_right l)
/-- what is kept behind some of the line -/
def keptOf (c : Cupboard) : List Nat := c.line.foldl (come c) []
theorem keptOf_sub (c : Cupboard) : (keptOf c).Sublist c.line := by
  have := fold_sub c c.line []
  rwa [List.nil_append] at this
theorem plain_kept (c : Cupboard) : c.plain = ((keptOf c).map fun i => 2 ^ i).sum := by
  unfold Cupboard.plain keptOf
  rw [plainFrom_fold]
theorem kept_nodup (c : Cupboard) : (keptOf c).Nodup := (line_nodup c).sublist (keptOf_sub c)
theorem kept_lt (c : Cupboard) : ∀ i ∈ keptOf c, i < c.count := fun i h => (line_mem c i).mp ((keptOf_sub c).subset h)
theorem plain_size (c : Cupboard) : c.size c.plain = (keptOf c).length := by
  rw [plain_kept, size_sum c (kept_nodup c) (kept_lt c)]
theorem plain_worth (c : Cupboard) : c.worth c.plain = ((keptOf c).map fun i => (c.thing i).worth).sum := by
  rw [plain_kept, worth_sum c (kept_nodup c) (kept_lt c)]
end Cup

namespace Cup
open PySem PySem.Spec PyProof.Rows L2 LamX NdefX

/-! ### keys: a lambda that reads a field of an item of a captured list -/
/-- what a call of the key reads in the heap h: c the captured cell, it holds the list at L of the instances its; k i is the field F of the i-th -/
structure KeyAt (K : PySem.W.Frag) (CT : Addr) (F : Str) (c L : Addr) (its : List Value) (k : Nat → Int) (h : Heap) : Prop where
  kin : K.In h
  lim : h.NoLimit
  cell : h.IsCell c (some (.ref L))
  lst : h.IsList L its.toArray
  one : ∀ i, i < its.length → ∃ (a dx : Addr) (mA : Str → Option Value) (t : Tok), its[i]? = some (.ref a) ∧ ObjM h a dx CT mA ∧ mA F = some (.int (k i) t)
abbrev Keeps (h h' : Heap) : Prop := ∀ b o, h.get? b = some o → h'.get? b = some o
theorem KeyAt.keeps {K : PySem.W.Frag} {CT : Addr} {F : Str} {c L : Addr} {its : List Value} {k : Nat → Int} {h h' : Heap} (x : KeyAt K CT F c L its k h) (e : Keeps h h') : KeyAt K CT F c L its k h' := by
  refine ⟨x.kin.keeps e, x.lim.keeps e, ?_, ?_, fun i hi => ?_⟩
  · obtain ⟨o, ho, hd⟩ := x.cell
    exact ⟨o, e _ _ ho, hd⟩
  · obtain ⟨o, ho, r⟩ := x.lst
    exact ⟨o, e _ _ ho, r⟩
  · obtain ⟨a, dx, mA, t, h1, h2, h3⟩ := x.one i hi
    obtain ⟨g1, ⟨od, es, ep, g2, g3⟩, g4⟩ := h2
    exact ⟨a, dx, mA, t, h1, ⟨e _ _ g1, ⟨od, es, ep, e _ _ g2, g3⟩, g4⟩, h3⟩
abbrev keyE (F : Str) (p1 p2 p3 p4 p5 p6 : Pos) (k0 : Nat) : Expr := .Tuple [.Attribute (.Subscript (.Name "things" p1) (.Name "number" p2) p3) F p4, .Name "number" p5] k0 p6
section
variable {prog : Program} {w : World} {A : Around} {E : Value → Shared → Prop} {s : Shared} {K : PySem.W.Frag} {CT : Addr} {F : Str} {c L : Addr} {its : List Value} {k : Nat → Int}
theorem key_body {env : Env} {m : Str → Option Value} {i : Nat} {t : Tok} {p1 p2 p3 p4 p5 p6 : Pos} {k0 : Nat} {Q : Value → Shared → Prop} (X : KeyAt K CT F c L its k s.heap) (hc : Cls K CT) (hn : NoAttr K CT F) (kf : env.scope.kind = .function)
    (hT : env.kindOf "things" = some .free) (hcl : env.cells.lookup ("things" : Str) = some c) (hN : env.kindOf "number" = some .local) (ns : s.heap.Ns env.locals m) (hm : m "number" = some (.int (i : Nat) t)) (hi : i < its.length) (hL : its.length ≤ sizeLine)
    (h : ∀ (h' : Heap) (tk : Nat) (p : Addr) (t1 t2 : Tok), Keeps s.heap h' → h'.get? p = some { cls := .type "tuple", data := .seq #[.int (k i) t1, .int (i : Nat) t2] } → Q (.ref p) { s with heap := h', toks := tk }) :
    wpAny (model prog w) A (eval (keyE F p1 p2 p3 p4 p5 p6 k0) env) Q E s := by
  obtain ⟨a, dx, mA, t1, h1, h2, h3⟩ := X.one i hi
  have h63 := line63
  refine wpAny_Tuple_spliced (args_cons (attr_of (by rfl) (Subscript_ (wpAny_Name (wpAny_loadName_free kf hT hcl X.cell ?_ (by decide)) (by decide)))) (by rfl))
  refine wpAny_Name (wpAny_loadName_local kf hN ns hm ?_) (by decide)
  refine item_listR X.lst (Int.natCast_nonneg i) (by omega) (by rw [Int.toNat_natCast, List.getElem?_toArray]; exact h1) ?_ (by rfl)
  refine get_map X.kin h2 (hc.get F) hc.hd hn h3 rfl ?_
  refine args_cons (wpAny_Name (wpAny_loadName_local kf hN ns hm ?_) (by decide)) (by rfl)
  refine args_nil ⟨by show 2 ≤ sizeLine; decide, ?_⟩
  exact h _ _ _ t1 t (fun b o e => Heap.get?_push_of_some _ e) (Heap.get?_push_size _ rfl)
/-- the key's call: a new pair, all else stands -/
theorem key_call {f c' : Addr} {qual : Str} {params : Arguments} {scope : Scope} {cl : List (Str × Addr)} {pm ctv : Value} {i : Nat} {t : Tok} {p1 p2 p3 p4 p5 p6 : Pos} {k0 : Nat} (hroom : A.depth < recursionLimit) (S : NScope ["number", "things"] ["number"] ["things"] scope)
    (ho : s.heap.get? f = some (PySem.W.kla_obj "<lambda>" qual params (keyE F p1 p2 p3 p4 p5 p6 k0) scope cl pm c' ctv)) (hcd : s.heap.CodeRec (.ref c') qual)
    (hb : ∀ v : Value, bindArgs (PySem.W.kla_fn "<lambda>" qual params (keyE F p1 p2 p3 p4 p5 p6 k0) scope cl pm (.ref c') ctv) ⟨[v], []⟩ = pure [(("number" : Str), v)]) (hcl : cl.lookup ("things" : Str) = some c)
    (X : KeyAt K CT F c L its k s.heap) (hc : Cls K CT) (hn : NoAttr K CT F) (hi : i < its.length) (hL : its.length ≤ sizeLine) :
    wpAny (model prog w) A (call (.ref f) [.int (i : Nat) t]) (PySem.W.KeyPure (.tuple [.int (k i), .int (i : Nat)]) s) (fun _ _ => False) s := by
  refine wpAny_call (codeAny_mono (PySem.W.kla_callFunE (R := fun r s' => ∃ u, r = .ok (.ret u) ∧ PySem.W.KeyPure (.tuple [.int (k i), .int (i : Nat)]) s u s') hroom ho rfl S.co S.gen rfl hcd ?_) fun r s' ⟨u, e, q⟩ => ?_)
  · rw [hb]
    refine wpAny_pure (wpAny_newFunctionEnv S.nocell (fun y hy => ?_) (fun h1 hns hsb => ⟨X.lim.fresh _ hsb, ?_⟩) S.kind)
    · rw [List.mem_singleton.mp hy]
      exact S.par _ (.head _)
    · have kp : Keeps s.heap h1 := fun b o e => hsb.extBut b o (Nat.ne_of_lt (Heap.lt_size e)) (Heap.get?_push_of_some _ e)
      refine PySem.W.kla_codeExpr (key_body (X.keeps kp) hc hn S.kind (S.frk _ (.head _)) hcl (S.par _ (.head _)) hns rfl hi hL fun h' tk p t1 t2 k2 hp => ⟨_, rfl, h', tk, rfl, fun b o e => k2 b o (kp b o e), ?_⟩)
      exact .tuple hp rfl rfl (.cons (.int _ _) (.cons (.int _ _) .nil))
  · subst e
    exact q
end
end Cup

namespace Cup
open PySem PySem.Spec PyProof.Rows L2 LamX NdefX
section
variable {prog : Program} {w : World} {A : Around} {E : Value → Shared → Prop} {s : Shared} {K : PySem.W.Frag} {CT : Addr} {F : Str} {c L : Addr} {its : List Value} {k : Nat → Int}
/-- the function at f is such a key -/
structure KeyFn (F : Str) (c f : Addr) (h : Heap) : Prop where
  ex : ∃ (c' : Addr) (qual : Str) (params : Arguments) (scope : Scope) (cl : List (Str × Addr)) (pm ctv : Value) (p1 p2 p3 p4 p5 p6 : Pos) (k0 : Nat), NScope ["number", "things"] ["number"] ["things"] scope ∧
    h.get? f = some (PySem.W.kla_obj "<lambda>" qual params (keyE F p1 p2 p3 p4 p5 p6 k0) scope cl pm c' ctv) ∧ h.CodeRec (.ref c') qual ∧
    (∀ v : Value, bindArgs (PySem.W.kla_fn "<lambda>" qual params (keyE F p1 p2 p3 p4 p5 p6 k0) scope cl pm (.ref c') ctv) ⟨[v], []⟩ = pure [(("number" : Str), v)]) ∧ cl.lookup ("things" : Str) = some c
theorem KeyFn.keeps {f : Addr} {h h' : Heap} (x : KeyFn F c f h) (e : Keeps h h') : KeyFn F c f h' := by
  obtain ⟨c', q, pa, sc, cl, pm, ct, p1, p2, p3, p4, p5, p6, k0, h1, h2, ⟨d, oc, vs, t, g1, g2, g3⟩, h4, h5⟩ := x.ex
  exact ⟨c', q, pa, sc, cl, pm, ct, p1, p2, p3, p4, p5, p6, k0, h1, e _ _ h2, ⟨d, oc, vs, t, g1, e _ _ g2, g3⟩, h4, h5⟩
theorem KeyFn.run {f : Addr} {i : Nat} {t : Tok} (x : KeyFn F c f s.heap) (hroom : A.depth < recursionLimit) (X : KeyAt K CT F c L its k s.heap) (hc : Cls K CT) (hn : NoAttr K CT F) (hi : i < its.length) (hL : its.length ≤ sizeLine) :
    wpAny (model prog w) A (call (.ref f) [.int (i : Nat) t]) (PySem.W.KeyPure (.tuple [.int (k i), .int (i : Nat)]) s) (fun _ _ => False) s := by
  obtain ⟨c', q, pa, sc, cl, pm, ct, p1, p2, p3, p4, p5, p6, k0, h1, h2, h3, h4, h5⟩ := x.ex
  exact key_call hroom h1 h2 h3 h4 h5 X hc hn hi hL
theorem depth_pair (x y : Int) : (PyData.tuple [.int x, .int y]).depth ≤ 1 := by
  have e := PySem.W.depth_ints [x, y]
  simp only [List.map_cons, List.map_nil] at e
  simp only [PyData.depth, e]
  omega
theorem each_range : ∀ (vs : List Value) (b : Nat), (∀ j v, vs[j]? = some v → ∃ t, v = Value.int ((b + j : Nat) : Int) t) → PySem.W.EachIs (fun (v : Value) (i : Nat) => ∃ t, v = Value.int (i : Nat) t) vs (List.range' b vs.length)
  | [], _, _ => .nil
  | v :: vs, b, h => by
    rw [List.length_cons, List.range'_succ]
    refine .cons (h 0 v rfl) (each_range vs (b + 1) fun j u hu => ?_)
    obtain ⟨t, e⟩ := h (j + 1) u hu
    exact ⟨t, by rw [e, show b + (j + 1) = b + 1 + j by omega]⟩
/-- sorted(range(n), key=f) -/
theorem sort_range {r f : Addr} {n : Nat} {t u v : Tok} {Q : Value → Shared → Prop} (hh : A.handled = none) (hr : IsRange s.heap r 0 (n : Nat) 1 t u v) (hroom : A.depth < recursionLimit) (hun : A.units + 8 < cLine)
    (x : KeyFn F c f s.heap) (X : KeyAt K CT F c L its k s.heap) (hc : Cls K CT) (hn : NoAttr K CT F) (hln : its.length = n) (h20 : n ≤ 1000)
    (h : ∀ (h1 h' : Heap) (tk : Nat) (p : Addr) (out : List Value) (e : Nat), Keeps s.heap h1 → Keeps h1 h' → h1.objs.size ≤ p → h'.get? p = some (seqObj "list" out.toArray e) → out.length = n →
      PySem.W.EachIs (fun (v : Value) (i : Nat) => ∃ t, v = Value.int (i : Nat) t) out ((List.range n).mergeSort (PySem.W.dataLe false fun i : Nat => .tuple [.int (k i), .int (i : Nat)])) → Q (.ref p) { s with heap := h', toks := tk }) :
    wpAny (model prog w) A (call (.builtin "sorted") [.ref r] [(Str.ofString "key", .ref f)]) Q E s := by
  have hz : ∀ m : Nat, m ≤ 1000 → m ≤ sizeLine := fun m hm => by rw [sizeLine_eq]; omega
  refine call_function_entry_kw kind_sorted plain_sorted entry_sorted (ksk_s1 _ _) ?_
  unfold Builtin.«sorted»
  refine wpAny_bind (m := checkCount "sorted" 1 1 _) (wpAny_pure ?_)
  refine wpAny_bind (L2.collect_range (n := n) (by exact hh) hr (small_one (by omega) (by omega) (by omega) (by omega)) (by rw [rangeSize_nat]; omega) (by omega) fun h1 tk1 acc k1 hacc => ?_)
  have hlen : acc.toList.length = n := by rw [Array.length_toList]; exact hacc.1
  refine wpAny_bind (wpAny_newList ?_ (by rw [hlen]; exact hz n h20))
  have k2 : Keeps s.heap (h1.push (seqObj "list" acc.toList.toArray 0)) := fun b o e => Heap.get?_push_of_some _ (k1 b o e)
  refine wpAny_bind (wpAny_holding (PySem.W.list_sort_key_data (β := Nat) (vs := acc.toList) (bs := List.range n) (R := fun v i => ∃ t, v = Value.int (i : Nat) t) (b := false) (fun i : Nat => .tuple [.int (k i), .int (i : Nat)]) (Heap.get?_push_size _ rfl) ?_ (.of fun _ _ => ?_) (.tuples fun i => ⟨_, _, rfl⟩) (by rw [List.length_range]; exact hz n h20) (fun i _ => ?_) (ksk_l1 _ _) (ksk_t1 _ _) ?_ ?_))
  · have e := each_range acc.toList 0 fun j v hv => ?_
    · rw [hlen, ← List.range_eq_range'] at e
      exact e
    · obtain ⟨t', e⟩ := hacc.2 j v (by rw [← hv, Array.getElem?_toList])
      exact ⟨t', by rw [e, Int.zero_add, Int.mul_one, Nat.zero_add]⟩
  · simp [PySem.W.alike, PySem.W.alikeAll]
  · have := depth_pair (k i) (i : Nat)
    show A.units + 1 + 1 + _ < cLine
    omega
  · rintro v i ⟨t', rfl⟩ hi h2 tk2 kp
    have hb : Keeps s.heap h2 := fun b o e => kp b o (Nat.ne_of_lt (Heap.lt_size (k1 b o e))) (k2 b o e)
    exact (x.keeps hb).run (s := { s with heap := h2, toks := tk2 }) hroom (X.keeps hb) hc hn (by rw [hln]; exact List.mem_range.mp hi) (by rw [hln]; exact hz n h20)
  · intro out e h3 tk3 kp ho hl he
    have hb : Keeps h1 h3 := fun b o q => kp b o (Nat.ne_of_lt (Heap.lt_size q)) (Heap.get?_push_of_some _ q)
    exact wpAny_pure ⟨_, rfl, h h1 h3 tk3 _ out e k1 hb (Nat.le_refl _) ho (by rw [hl, List.length_range]) he⟩
end
end Cup

namespace Cup
open PySem PySem.Spec PyProof.Rows L2 LamX NdefX
/-! ### max(numbers, key=f) -/
/-- v is a pair of whole numbers -/
def PairAt (h : Heap) (v : Value) (x y : Int) : Prop := ∃ (p : Addr) (o : Obj) (t u : Tok) (n : Nat), v = .ref p ∧ h.get? p = some o ∧ o.cls = .type "tuple" ∧ o.data = .seq #[.int x t, .int y u] n
theorem PairAt.but {h h' : Heap} {v : Value} {x y : Int} {a : Addr} (q : PairAt h v x y) (k : ∀ b o, b ≠ a → h.get? b = some o → h'.get? b = some o) (ha : ∀ o, h.get? a = some o → o.cls ≠ .type "tuple") : PairAt h' v x y := by
  obtain ⟨p, o, t, u, n, e, ho, hc, hd⟩ := q
  exact ⟨p, o, t, u, n, e, k p o (fun z => ha o (by rw [← z]; exact ho) hc) ho, hc, hd⟩
theorem PairAt.keeps {h h' : Heap} {v : Value} {x y : Int} (q : PairAt h v x y) (k : Keeps h h') : PairAt h' v x y := by
  obtain ⟨p, o, t, u, n, e, ho, r⟩ := q
  exact ⟨p, o, t, u, n, e, k p o ho, r⟩
theorem PairAt.of {h : Heap} {v : Value} {x y : Int} (r : PySem.Reads h v (.tuple [.int x, .int y]) []) : PairAt h v x y := by
  cases r with
  | @tuple p o vs n _ _ h1 h2 h3 h4 =>
    generalize hu : vs.toList = us at h4
    generalize ha : ([] : List Addr) = as at h4
    cases h4 with
    | cons a b =>
      cases a with
      | int _ t =>
        cases b with
        | cons a b =>
          cases a with
          | int _ u =>
            cases b
            exact ⟨p, o, t, u, n, rfl, h1, h2, by rw [h3, ← Array.toArray_toList (xs := vs), hu]⟩
theorem PairAt.reads {h : Heap} {v : Value} {x y : Int} (q : PairAt h v x y) : PySem.Reads h v (.tuple [.int x, .int y]) [] := by
  obtain ⟨p, o, t, u, n, rfl, ho, hc, hd⟩ := q
  exact .tuple ho hc hd (.cons (.int _ _) (.cons (.int _ _) .nil))
/-- the pair (k i, i) lies behind the pair (k j, j), or is it -/
def PairLe (k : Nat → Int) (i j : Nat) : Prop := k i < k j ∨ (k i = k j ∧ i ≤ j)
section
variable {prog : Program} {w : World} {A : Around} {E : Value → Shared → Prop} {s : Shared} {K : PySem.W.Frag} {CT : Addr} {F : Str} {c L l : Addr} {its vs : List Value} {ns : List Nat} {k : Nat → Int} {f I S : Addr} {h0 : Heap} {R : Result → Shared → Prop} {Q : Value → Shared → Prop}
theorem mem_get {ns : List Nat} {j : Nat} (h : j < ns.length) : ∃ x, ns[j]? = some x ∧ x ∈ ns := ⟨ns[j], List.getElem?_eq_getElem h, List.getElem_mem h⟩
theorem max_loop (hh : A.handled = none) (hroom : A.depth < recursionLimit) (hun : A.units + 8 < cLine) (hls : h0.IsList l vs.toArray) (hI : h0.get? I = none) (hS : h0.get? S = none) (hSI : S ≠ I) (hv : ∀ (j x : Nat), ns[j]? = some x → ∃ t, vs[j]? = some (.int (x : Nat) t)) (hvn : vs.length = ns.length)
    (x : KeyFn F c f h0) (X : KeyAt K CT F c L its k h0) (hc : Cls K CT) (hn : NoAttr K CT F) (hlt : ∀ y ∈ ns, y < its.length) (hz : its.length ≤ sizeLine)
    (hR : ∀ (m : Nat) (t : Tok) (h' : Heap) (tk : Nat), m ∈ ns → (∀ y ∈ ns, PairLe k y m) → Keeps h0 h' → R (.ok (.ret (.int (m : Nat) t))) { s with heap := h', toks := tk }) :
    ∀ (r j m : Nat) (h : Heap) (tk : Nat) (tm : Tok) (kb : Value) (e : Nat), ns.length - (j + 1) = r → j + 1 ≤ ns.length → Keeps h0 h → h.get? S = some (seqObj "list" #[.int (m : Nat) tm, kb] e) → h.IsListIter I l (j + 1) → PairAt h kb (k m) (m : Nat) → m ∈ ns →
      (∀ y ∈ ns.take (j + 1), PairLe k y m) → codeAny (model prog w) A (.builtin "max.loop" ⟨[.ref I, .ref f, .ref S], []⟩) R { s with heap := h, toks := tk } := by
  have nm : (toString "max" ++ toString ".loop" : String) = "max.loop" := by decide
  have up : ∀ {b : Addr} {o : Obj}, h0.get? b = some o → b ≠ I ∧ b ≠ S := fun {b o} q => ⟨fun z => (by rw [z, hI] at q; cases q), fun z => (by rw [z, hS] at q; cases q)⟩
  obtain ⟨ol, hol, hlc⟩ := id hls
  have W := Walks.list (prog := prog) (w := w) (A := A.in1) hh I l (up hol).1 vs.toArray
  have size : vs.toArray.size = ns.length := by rw [List.size_toArray, hvn]
  intro r
  induction r with
  | zero =>
    intro j m h tk tm kb e hr hj kp hSo hit hp hm hb
    have end_ : j + 1 = ns.length := by omega
    refine codeAny_builtin PySem.F.entry_max_loop ?_
    rw [Around.under_plainId PySem.F.plain_max_loop _]
    show wpAny _ A.in1 (seqItems? (.ref S) >>= _) _ _ _; refine wpAny_bind (wpAny_seqItems hSo rfl ?_)
    show wpAny _ A.in1 (tryCatch (pyNext (.ref I)) _ >>= _) _ _ _; refine wpAny_bind (wpAny_tryCatch (W.done _ _ _ ⟨by rw [size, ← end_]; exact hit, ⟨ol, kp _ _ hol, hlc⟩⟩ fun h1 tk1 k1 => ?_))
    have hS1 := k1 S _ (by simpa using hSI) hSo
    have u1 := Heap.SameBut.update h1 S (Obj.mapSeq fun _ => (#[] : Array Value))
    show wpAny _ A.in1 (updateSeq S (fun _ => #[]) >>= _) _ _ _; refine wpAny_bind (wpAny_updateSeq hS1 rfl (wpAny_bind (wpAny_letGo (wpAny_pure ?_))))
    refine hR m tm _ _ hm (fun y hy => hb y (by rw [end_, List.take_length]; exact hy)) fun b o q => (u1.2 b (up q).2).trans (k1 b o (by simpa using (up q).1) (kp b o q))
  | succ r ih =>
    intro j m h tk tm kb e hr hj kp hSo hit hp hm hb
    have hj1 : j + 1 < ns.length := by omega
    refine codeAny_builtin PySem.F.entry_max_loop ?_
    rw [Around.under_plainId PySem.F.plain_max_loop _]
    show wpAny _ A.in1 (seqItems? (.ref S) >>= _) _ _ _; refine wpAny_bind (wpAny_seqItems hSo rfl ?_)
    show wpAny _ A.in1 (tryCatch (pyNext (.ref I)) _ >>= _) _ _ _; refine wpAny_bind (wpAny_tryCatch (W.item (j + 1) _ _ _ (by rw [size]; exact hj1) ⟨hit, ⟨ol, kp _ _ hol, hlc⟩⟩ fun v h1 tk1 hP st1 k1 => ?_))
    have hv1 : vs[j + 1]? = some v := by simpa using hP
    obtain ⟨y, hy, hym⟩ := mem_get hj1
    obtain ⟨t, ht⟩ := hv _ _ hy
    rw [ht] at hv1
    cases hv1
    obtain ⟨oI, hoI, hoc, hod⟩ := id st1.1
    obtain ⟨oI0, hoI0, hoc0, hod0⟩ := id hit
    have hS1 := k1 S _ (by simpa using hSI) hSo
    have kp1 : Keeps h0 h1 := fun b o q => k1 b o (by simpa using (up q).1) (kp b o q)
    have hp1 : PairAt h1 kb (k m) (m : Nat) := hp.but (a := I) (fun b o hb q => k1 b o (by simpa using hb) q) fun o q z => by
      rw [hoI0] at q
      cases q
      rw [hoc0] at z
      exact absurd (Value.type.inj z) (by decide)
    show wpAny _ A.in1 (tryCatch (holding [_] (call (.ref f) [_])) _ >>= _) _ _ _
    refine wpAny_bind (wpAny_tryCatch (wpAny_holding (wpAny_mono ((x.keeps kp1).run (s := { s with heap := h1, toks := tk1 }) (A := A.in1) hroom (X.keeps kp1) hc hn (hlt y hym) hz) (fun kv s2 he => ?_) fun _ _ z => z.elim)))
    obtain ⟨h2, tk2, rfl, k2, rd⟩ := he
    have hk2 := PairAt.of rd
    have hp2 := hp1.keeps k2
    have kp2 : Keeps h0 h2 := fun b o q => k2 b o (kp1 b o q)
    have hS2 := k2 _ _ hS1
    have hI2 := k2 _ _ hoI
    have G := PySem.W.rcGt_alike (.tuple [.int (k y), .int (y : Nat)]) (.tuple [.int (k m), .int (m : Nat)]) A.in1 { s with heap := h2, toks := tk2 } kv kb [] [] hk2.reads hp2.reads (by simp [PySem.W.alike, PySem.W.alikeAll]) (by nofun) (by
      have := depth_pair (k y) (y : Nat)
      show A.units + 1 + _ < cLine
      omega)
    show wpAny _ A.in1 (tryCatch (holding [_, kv] (richCompare .Gt kv kb >>= _)) _ >>= _) _ _ _
    refine wpAny_bind (wpAny_tryCatch (wpAny_holding (wpAny_bind (G _ _ _ _ ?_))))
    refine wpAny_bind (wpAny_holding (wpAny_truthy_bool ?_))
    refine wpAny_bind (wpAny_letGo (wpAny_pure ?_))
    rw [PySem.W.dataLt_ii]
    have more : ∀ z ∈ ns.take (j + 1 + 1), z ∈ ns.take (j + 1) ∨ z = y := fun z hz => by
      rw [List.take_add_one, hy] at hz
      simpa using hz
    by_cases g : k m < k y ∨ (k m = k y ∧ ((m : Nat) : Int) < (y : Nat))
    · have u2 := Heap.SameBut.update h2 S (Obj.mapSeq fun _ => #[.int (y : Nat) t, kv])
      obtain ⟨e2, he2⟩ : ∃ e2, (h2.update S (Obj.mapSeq fun _ => #[.int (y : Nat) t, kv])).get? S = some (seqObj "list" #[.int (y : Nat) t, kv] e2) := ⟨_, get?_update_seq hS2 fun _ => #[.int (y : Nat) t, kv]⟩
      rw [decide_eq_true g]
      simp only [if_true]
      refine wpAny_bind (wpAny_updateSeq hS2 rfl (wpAny_bind (wpAny_letGo ?_)))
      rw [nm]
      refine wpAny_pure ⟨plainId_quiet PySem.F.plain_max_loop _, ih (j + 1) y _ _ t kv e2 (by omega) hj1 (fun b o q => (u2.2 b (up q).2).trans (kp2 b o q)) he2 ⟨oI, (u2.2 I hSI.symm).trans hI2, hoc, hod⟩ (hk2.but (a := S) (fun b o hb q => (u2.2 b hb).trans q) fun o q z => ?_) hym fun z hz => ?_⟩
      · rw [hS2] at q
        cases q
        exact absurd (Value.type.inj z) (by decide)
      · rcases more z hz with hz | rfl
        · rcases hb z hz with q | ⟨q1, q2⟩
          · unfold PairLe
            omega
          · unfold PairLe
            omega
        · exact .inr ⟨rfl, Nat.le_refl _⟩
    · rw [decide_eq_false g]
      simp only [Bool.false_eq_true, if_false]
      refine wpAny_bind (wpAny_letGo ?_)
      rw [nm]
      refine wpAny_pure ⟨plainId_quiet PySem.F.plain_max_loop _, ih (j + 1) m _ _ tm kb e (by omega) hj1 kp2 hS2 ⟨oI, hI2, hoc, hod⟩ hp2 hm fun z hz => ?_⟩
      rcases more z hz with hz | rfl
      · exact hb z hz
      · unfold PairLe
        omega
/-- max(l, key=f), l not empty -/
theorem max_key (hh : A.handled = none) (hroom : A.depth < recursionLimit) (hun : A.units + 16 < cLine) (hls : s.heap.IsList l vs.toArray) (hv : ∀ (j x : Nat), ns[j]? = some x → ∃ t, vs[j]? = some (.int (x : Nat) t)) (hvn : vs.length = ns.length) (h1 : 0 < ns.length)
    (x : KeyFn F c f s.heap) (X : KeyAt K CT F c L its k s.heap) (hc : Cls K CT) (hn : NoAttr K CT F) (hlt : ∀ y ∈ ns, y < its.length) (hz : its.length ≤ sizeLine)
    (hQ : ∀ (m : Nat) (t : Tok) (h' : Heap) (tk : Nat), m ∈ ns → (∀ y ∈ ns, PairLe k y m) → Keeps s.heap h' → Q (.int (m : Nat) t) { s with heap := h', toks := tk }) :
    wpAny (model prog w) A (call (.builtin "max") [.ref l] [(Str.ofString "key", .ref f)]) Q E s := by
  have nm : (toString "max" ++ toString ".loop" : String) = "max.loop" := by decide
  obtain ⟨ol, hol, hlc⟩ := id hls
  have hll : l < s.heap.objs.size := Heap.lt_size hol
  refine kmk_tree PySem.F.kind_max PySem.F.plain_max PySem.F.entry_max (kmk_max_key _ _) ?_
  show wpAny _ A.in1 (Builtin.Builtins.bindParams "max" ["key", "default"] 0 ⟨[], [(Str.ofString "key", .ref f)]⟩ >>= _) _ _ s
  refine wpAny_bind (wpAny_of_eq (show Builtin.Builtins.bindParams "max" ["key", "default"] 0 ⟨[], [(Str.ofString "key", .ref f)]⟩ = pure [some (.ref f), none] from rfl) (wpAny_bind (wpAny_pure ?_)))
  refine wpAny_bind (wpAny_pyIter_list hls (wpAny_bind (wpAny_newList ?_ (Nat.zero_le _))))
  rw [nm]
  generalize eg : s.heap.push { cls := .type "list_iterator", data := .fields #[.ref l, .int 0 0] } = g
  have gI : g.get? s.heap.objs.size = some { cls := .type "list_iterator", data := .fields #[.ref l, .int 0 0] } := by rw [← eg]; exact Heap.get?_push_size _ rfl
  have gk : Keeps s.heap g := fun b o q => by rw [← eg]; exact Heap.get?_push_of_some _ q
  have gz : g.objs.size = s.heap.objs.size + 1 := by rw [← eg]; exact size_push' ..
  have gS : (g.push (seqObj "list" #[] 0)).get? g.objs.size = some (seqObj "list" #[] 0) := Heap.get?_push_size _ rfl
  have gI2 : (g.push (seqObj "list" #[] 0)).get? s.heap.objs.size = some { cls := .type "list_iterator", data := .fields #[.ref l, .int 0 0] } := Heap.get?_push_of_some _ gI
  have gk2 : Keeps s.heap (g.push (seqObj "list" #[] 0)) := fun b o q => Heap.get?_push_of_some _ (gk b o q)
  have nI : s.heap.get? s.heap.objs.size = none := Heap.get?_none_of_le (Nat.le_refl _)
  have nS : s.heap.get? g.objs.size = none := Heap.get?_none_of_le (by rw [gz]; exact Nat.le_succ _)
  have nSI : g.objs.size ≠ s.heap.objs.size := by rw [gz]; exact Nat.ne_of_gt (Nat.lt_succ_self _)
  have up : ∀ {b : Addr} {o : Obj}, s.heap.get? b = some o → b ≠ s.heap.objs.size ∧ b ≠ g.objs.size := fun {b o} q => ⟨fun z => (by rw [z, nI] at q; cases q), fun z => (by rw [z, nS] at q; cases q)⟩
  have W := Walks.list (prog := prog) (w := w) (A := A.in1) hh s.heap.objs.size l (Nat.ne_of_lt hll) vs.toArray
  obtain ⟨y, hy, hym⟩ := mem_get h1
  obtain ⟨t, ht⟩ := hv _ _ hy
  refine wpAny_pure ⟨plainId_quiet PySem.F.plain_max_loop _, codeAny_builtin PySem.F.entry_max_loop ?_⟩
  rw [Around.under_plainId PySem.F.plain_max_loop _]
  show wpAny _ A.in1 (seqItems? (.ref _) >>= _) _ _ _; refine wpAny_bind (wpAny_seqItems gS rfl ?_)
  show wpAny _ A.in1 (tryCatch (pyNext (.ref s.heap.objs.size)) _ >>= _) _ _ _
  refine wpAny_bind (wpAny_tryCatch (W.item 0 _ _ _ (by rw [List.size_toArray, hvn]; exact h1) ⟨⟨_, gI2, rfl, rfl⟩, ⟨ol, gk2 _ _ hol, hlc⟩⟩ fun v h2 tk2 hP st2 k2 => ?_))
  have hv0 : vs[0]? = some v := by simpa using hP
  rw [ht] at hv0
  cases hv0
  obtain ⟨oI, hoI, hoc, hod⟩ := id st2.1
  have kp2 : Keeps s.heap h2 := fun b o q => k2 b o (by simpa using (up q).1) (gk2 b o q)
  have hS2 := k2 _ _ (by simpa using nSI) gS
  show wpAny _ A.in1 (tryCatch (holding [_] (call (.ref f) [_])) _ >>= _) _ _ _
  refine wpAny_bind (wpAny_tryCatch (wpAny_holding (wpAny_mono ((x.keeps kp2).run (s := { s with heap := h2, toks := tk2 }) (A := A.in1) hroom (X.keeps kp2) hc hn (hlt y hym) hz) (fun kv s3 he => ?_) fun _ _ z => z.elim)))
  obtain ⟨h3, tk3, rfl, k3, rd⟩ := he
  have hk3 := PairAt.of rd
  have hS3 := k3 _ _ hS2
  have u3 := Heap.SameBut.update h3 g.objs.size (Obj.mapSeq fun _ => #[.int (y : Nat) t, kv])
  obtain ⟨e3, he3⟩ : ∃ e3, (h3.update g.objs.size (Obj.mapSeq fun _ => #[.int (y : Nat) t, kv])).get? g.objs.size = some (seqObj "list" #[.int (y : Nat) t, kv] e3) := ⟨_, get?_update_seq hS3 fun _ => #[.int (y : Nat) t, kv]⟩
  show wpAny _ A.in1 (updateSeq g.objs.size (fun _ => #[.int (y : Nat) t, kv]) >>= _) _ _ _; refine wpAny_bind (wpAny_updateSeq hS3 rfl ?_)
  rw [nm]
  refine wpAny_pure ⟨plainId_quiet PySem.F.plain_max_loop _, max_loop (A := A) (s := s) hh hroom (by omega) hls nI nS nSI hv hvn x X hc hn hlt hz hQ _ 0 y _ _ t kv e3 rfl h1 (fun b o q => (u3.2 b (up q).2).trans (k3 b o (kp2 b o q))) he3 ⟨oI, (u3.2 _ nSI.symm).trans (k3 _ _ hoI), hoc, hod⟩ (hk3.but (a := g.objs.size) (fun b o hb q => (u3.2 b hb).trans q) fun o q z => ?_) hym fun z hz => ?_⟩
  · rw [hS3] at q
    cases q
    exact absurd (Value.type.inj z) (by decide)
  · rw [List.take_add_one, hy] at hz
    have hz : z = y := by simpa using hz
    rw [hz]
    exact .inr ⟨rfl, Nat.le_refl _⟩
end
end Cup

namespace Cup
open PySem PySem.Spec PyProof.Rows L2 LamX NdefX
/-! ### max(l, default=d), whole numbers -/
theorem max_dflt_ok (a v : Value) : argsOk "max" ⟨[a], [(Str.ofString "default", v)]⟩ := by unfold argsOk; kernel_rfl
section
variable {prog : Program} {w : World} {A : Around} {E : Value → Shared → Prop} {s : Shared} {l I S : Addr} {vs : List Value} {ns : List Int} {d : Value} {h0 : Heap} {R : Result → Shared → Prop} {Q : Value → Shared → Prop}
theorem top_loop (hh : A.handled = none) (hun : A.units + 8 < cLine) (hls : h0.IsList l vs.toArray) (hI : h0.get? I = none) (hS : h0.get? S = none) (hSI : S ≠ I) (hv : ∀ (j : Nat) (x : Int), ns[j]? = some x → ∃ t, vs[j]? = some (.int x t)) (hvn : vs.length = ns.length)
    (hR : ∀ (m : Int) (t : Tok) (h' : Heap) (tk : Nat), m ∈ ns → (∀ y ∈ ns, y ≤ m) → Keeps h0 h' → R (.ok (.ret (.int m t))) { s with heap := h', toks := tk }) :
    ∀ (r j : Nat) (m : Int) (h : Heap) (tk : Nat) (tm : Tok) (e : Nat), ns.length - (j + 1) = r → j + 1 ≤ ns.length → Keeps h0 h → h.get? S = some (seqObj "list" #[.int m tm, .int m tm] e) → h.IsListIter I l (j + 1) → m ∈ ns →
      (∀ y ∈ ns.take (j + 1), y ≤ m) → codeAny (model prog w) A (.builtin "max.loop" ⟨[.ref I, .none, .ref S], [(Str.ofString "default", d)]⟩) R { s with heap := h, toks := tk } := by
  have nm : (toString "max" ++ toString ".loop" : String) = "max.loop" := by decide
  have up : ∀ {b : Addr} {o : Obj}, h0.get? b = some o → b ≠ I ∧ b ≠ S := fun {b o} q => ⟨fun z => (by rw [z, hI] at q; cases q), fun z => (by rw [z, hS] at q; cases q)⟩
  obtain ⟨ol, hol, hlc⟩ := id hls
  have W := Walks.list (prog := prog) (w := w) (A := A.in1) hh I l (up hol).1 vs.toArray
  have size : vs.toArray.size = ns.length := by rw [List.size_toArray, hvn]
  intro r
  induction r with
  | zero =>
    intro j m h tk tm e hr hj kp hSo hit hm hb
    have end_ : j + 1 = ns.length := by omega
    refine codeAny_builtin PySem.F.entry_max_loop ?_
    rw [Around.under_plainId PySem.F.plain_max_loop _]
    show wpAny _ A.in1 (seqItems? (.ref S) >>= _) _ _ _; refine wpAny_bind (wpAny_seqItems hSo rfl ?_)
    show wpAny _ A.in1 (tryCatch (pyNext (.ref I)) _ >>= _) _ _ _; refine wpAny_bind (wpAny_tryCatch (W.done _ _ _ ⟨by rw [size, ← end_]; exact hit, ⟨ol, kp _ _ hol, hlc⟩⟩ fun h1 tk1 k1 => ?_))
    have hS1 := k1 S _ (by simpa using hSI) hSo
    have u1 := Heap.SameBut.update h1 S (Obj.mapSeq fun _ => (#[] : Array Value))
    show wpAny _ A.in1 (updateSeq S (fun _ => #[]) >>= _) _ _ _; refine wpAny_bind (wpAny_updateSeq hS1 rfl (wpAny_bind (wpAny_letGo (wpAny_pure ?_))))
    refine hR m tm _ _ hm (fun y hy => hb y (by rw [end_, List.take_length]; exact hy)) fun b o q => (u1.2 b (up q).2).trans (k1 b o (by simpa using (up q).1) (kp b o q))
  | succ r ih =>
    intro j m h tk tm e hr hj kp hSo hit hm hb
    have hj1 : j + 1 < ns.length := by omega
    refine codeAny_builtin PySem.F.entry_max_loop ?_
    rw [Around.under_plainId PySem.F.plain_max_loop _]
    show wpAny _ A.in1 (seqItems? (.ref S) >>= _) _ _ _; refine wpAny_bind (wpAny_seqItems hSo rfl ?_)
    show wpAny _ A.in1 (tryCatch (pyNext (.ref I)) _ >>= _) _ _ _; refine wpAny_bind (wpAny_tryCatch (W.item (j + 1) _ _ _ (by rw [size]; exact hj1) ⟨hit, ⟨ol, kp _ _ hol, hlc⟩⟩ fun v h1 tk1 hP st1 k1 => ?_))
    have hv1 : vs[j + 1]? = some v := by simpa using hP
    have hy : ns[j + 1]? = some ns[j + 1] := List.getElem?_eq_getElem hj1
    have hym : ns[j + 1] ∈ ns := List.getElem_mem hj1
    generalize ns[j + 1] = y at hy hym
    obtain ⟨t, ht⟩ := hv _ _ hy
    rw [ht] at hv1
    cases hv1
    obtain ⟨oI, hoI, hoc, hod⟩ := id st1.1
    have hS1 := k1 S _ (by simpa using hSI) hSo
    have kp1 : Keeps h0 h1 := fun b o q => k1 b o (by simpa using (up q).1) (kp b o q)
    have G := PySem.W.rcGt_alike (.int y) (.int m) A.in1 { s with heap := h1, toks := tk1 } (.int y t) (.int m tm) [] [] (.int _ _) (.int _ _) (by simp [PySem.W.alike]) (by nofun) (by
      have e0 : (PyData.int y).depth = 0 := by simp [PyData.depth]
      show A.units + 1 + min _ _ < cLine
      rw [e0]
      omega)
    show wpAny _ A.in1 (tryCatch (holding [_, _] (richCompare .Gt (.int y t) (.int m tm) >>= _)) _ >>= _) _ _ _
    refine wpAny_bind (wpAny_tryCatch (wpAny_holding (wpAny_bind (G _ _ _ _ ?_))))
    refine wpAny_bind (wpAny_holding (wpAny_truthy_bool ?_))
    refine wpAny_bind (wpAny_letGo (wpAny_pure ?_))
    rw [PySem.W.dataLt_int]
    have more : ∀ z ∈ ns.take (j + 1 + 1), z ∈ ns.take (j + 1) ∨ z = y := fun z hz => by
      rw [List.take_add_one, hy] at hz
      simpa using hz
    by_cases g : m < y
    · have u2 := Heap.SameBut.update h1 S (Obj.mapSeq fun _ => #[.int y t, .int y t])
      obtain ⟨e2, he2⟩ : ∃ e2, (h1.update S (Obj.mapSeq fun _ => #[.int y t, .int y t])).get? S = some (seqObj "list" #[.int y t, .int y t] e2) := ⟨_, get?_update_seq hS1 fun _ => #[.int y t, .int y t]⟩
      rw [decide_eq_true g]
      simp only [if_true]
      refine wpAny_bind (wpAny_updateSeq hS1 rfl (wpAny_bind (wpAny_letGo ?_)))
      rw [nm]
      refine wpAny_pure ⟨plainId_quiet PySem.F.plain_max_loop _, ih (j + 1) y _ _ t e2 (by omega) hj1 (fun b o q => (u2.2 b (up q).2).trans (kp1 b o q)) he2 ⟨oI, (u2.2 I hSI.symm).trans hoI, hoc, hod⟩ hym fun z hz => ?_⟩
      rcases more z hz with hz | rfl
      · have := hb z hz
        omega
      · exact Int.le_refl _
    · rw [decide_eq_false g]
      simp only [Bool.false_eq_true, if_false]
      refine wpAny_bind (wpAny_letGo ?_)
      rw [nm]
      refine wpAny_pure ⟨plainId_quiet PySem.F.plain_max_loop _, ih (j + 1) m _ _ tm e (by omega) hj1 kp1 hS1 ⟨oI, hoI, hoc, hod⟩ hm fun z hz => ?_⟩
      rcases more z hz with hz | rfl
      · exact hb z hz
      · omega
theorem max_dflt (hh : A.handled = none) (hun : A.units + 16 < cLine) (hls : s.heap.IsList l vs.toArray) (hv : ∀ (j : Nat) (x : Int), ns[j]? = some x → ∃ t, vs[j]? = some (.int x t)) (hvn : vs.length = ns.length)
    (h0 : ns = [] → ∀ (h' : Heap) (tk : Nat), Keeps s.heap h' → Q d { s with heap := h', toks := tk })
    (hQ : ∀ (m : Int) (t : Tok) (h' : Heap) (tk : Nat), m ∈ ns → (∀ y ∈ ns, y ≤ m) → Keeps s.heap h' → Q (.int m t) { s with heap := h', toks := tk }) :
    wpAny (model prog w) A (call (.builtin "max") [.ref l] [(Str.ofString "default", d)]) Q E s := by
  have nm : (toString "max" ++ toString ".loop" : String) = "max.loop" := by decide
  obtain ⟨ol, hol, hlc⟩ := id hls
  have hll : l < s.heap.objs.size := Heap.lt_size hol
  refine kmk_tree PySem.F.kind_max PySem.F.plain_max PySem.F.entry_max (max_dflt_ok _ _) ?_
  show wpAny _ A.in1 (Builtin.Builtins.bindParams "max" ["key", "default"] 0 ⟨[], [(Str.ofString "default", d)]⟩ >>= _) _ _ s
  refine wpAny_bind (wpAny_of_eq (show Builtin.Builtins.bindParams "max" ["key", "default"] 0 ⟨[], [(Str.ofString "default", d)]⟩ = pure [none, some d] from rfl) (wpAny_bind (wpAny_pure ?_)))
  refine wpAny_bind (wpAny_pyIter_list hls (wpAny_bind (wpAny_newList ?_ (Nat.zero_le _))))
  rw [nm]
  generalize eg : s.heap.push { cls := .type "list_iterator", data := .fields #[.ref l, .int 0 0] } = g
  have gI : g.get? s.heap.objs.size = some { cls := .type "list_iterator", data := .fields #[.ref l, .int 0 0] } := by rw [← eg]; exact Heap.get?_push_size _ rfl
  have gk : Keeps s.heap g := fun b o q => by rw [← eg]; exact Heap.get?_push_of_some _ q
  have gz : g.objs.size = s.heap.objs.size + 1 := by rw [← eg]; exact size_push' ..
  have gS : (g.push (seqObj "list" #[] 0)).get? g.objs.size = some (seqObj "list" #[] 0) := Heap.get?_push_size _ rfl
  have gI2 : (g.push (seqObj "list" #[] 0)).get? s.heap.objs.size = some { cls := .type "list_iterator", data := .fields #[.ref l, .int 0 0] } := Heap.get?_push_of_some _ gI
  have gk2 : Keeps s.heap (g.push (seqObj "list" #[] 0)) := fun b o q => Heap.get?_push_of_some _ (gk b o q)
  have nI : s.heap.get? s.heap.objs.size = none := Heap.get?_none_of_le (Nat.le_refl _)
  have nS : s.heap.get? g.objs.size = none := Heap.get?_none_of_le (by rw [gz]; exact Nat.le_succ _)
  have nSI : g.objs.size ≠ s.heap.objs.size := by rw [gz]; exact Nat.ne_of_gt (Nat.lt_succ_self _)
  have up : ∀ {b : Addr} {o : Obj}, s.heap.get? b = some o → b ≠ s.heap.objs.size ∧ b ≠ g.objs.size := fun {b o} q => ⟨fun z => (by rw [z, nI] at q; cases q), fun z => (by rw [z, nS] at q; cases q)⟩
  have W := Walks.list (prog := prog) (w := w) (A := A.in1) hh s.heap.objs.size l (Nat.ne_of_lt hll) vs.toArray
  refine wpAny_pure ⟨plainId_quiet PySem.F.plain_max_loop _, codeAny_builtin PySem.F.entry_max_loop ?_⟩
  rw [Around.under_plainId PySem.F.plain_max_loop _]
  show wpAny _ A.in1 (seqItems? (.ref _) >>= _) _ _ _; refine wpAny_bind (wpAny_seqItems gS rfl ?_)
  show wpAny _ A.in1 (tryCatch (pyNext (.ref s.heap.objs.size)) _ >>= _) _ _ _
  by_cases h1 : 0 < ns.length
  · have hy : ns[0]? = some ns[0] := List.getElem?_eq_getElem h1
    have hym : ns[0] ∈ ns := List.getElem_mem h1
    generalize ns[0] = y at hy hym
    obtain ⟨t, ht⟩ := hv _ _ hy
    refine wpAny_bind (wpAny_tryCatch (W.item 0 _ _ _ (by rw [List.size_toArray, hvn]; exact h1) ⟨⟨_, gI2, rfl, rfl⟩, ⟨ol, gk2 _ _ hol, hlc⟩⟩ fun v h2 tk2 hP st2 k2 => ?_))
    have hv0 : vs[0]? = some v := by simpa using hP
    rw [ht] at hv0
    cases hv0
    obtain ⟨oI, hoI, hoc, hod⟩ := id st2.1
    have kp2 : Keeps s.heap h2 := fun b o q => k2 b o (by simpa using (up q).1) (gk2 b o q)
    have hS2 := k2 _ _ (by simpa using nSI) gS
    have u3 := Heap.SameBut.update h2 g.objs.size (Obj.mapSeq fun _ => #[.int y t, .int y t])
    obtain ⟨e3, he3⟩ : ∃ e3, (h2.update g.objs.size (Obj.mapSeq fun _ => #[.int y t, .int y t])).get? g.objs.size = some (seqObj "list" #[.int y t, .int y t] e3) := ⟨_, get?_update_seq hS2 fun _ => #[.int y t, .int y t]⟩
    show wpAny _ A.in1 (updateSeq g.objs.size (fun _ => #[.int y t, .int y t]) >>= _) _ _ _; refine wpAny_bind (wpAny_updateSeq hS2 rfl ?_)
    rw [nm]
    refine wpAny_pure ⟨plainId_quiet PySem.F.plain_max_loop _, top_loop (A := A) (s := s) hh (by omega) hls nI nS nSI hv hvn hQ _ 0 y _ _ t e3 rfl h1 (fun b o q => (u3.2 b (up q).2).trans (kp2 b o q)) he3 ⟨oI, (u3.2 _ nSI.symm).trans hoI, hoc, hod⟩ hym fun z hz => ?_⟩
    rw [List.take_add_one, hy] at hz
    have hz : z = y := by simpa using hz
    rw [hz]
    exact Int.le_refl _
  · have hn : ns.length = 0 := by omega
    refine wpAny_bind (wpAny_tryCatch (W.done _ _ _ ⟨by rw [show vs.toArray.size = 0 by rw [List.size_toArray, hvn, hn]]; exact ⟨_, gI2, rfl, rfl⟩, ⟨ol, gk2 _ _ hol, hlc⟩⟩ fun h2 tk2 k2 => ?_))
    show wpAny _ A.in1 (rule _ >>= _) _ _ _
    refine wpAny_bind (wpAny_rule (wpAny_pure ?_))
    exact h0 (List.eq_nil_of_length_eq_zero hn) _ _ fun b o q => k2 b o (by simpa using (up q).1) (gk2 b o q)
end
end Cup

namespace Cup
open PySem PySem.Spec PyProof.Rows L2
open Si89 (Thing)

def top (i : Nat) : Stmt := PySem.Challenge.pw_cupboardkept_s01_answers.main.body.getD i (.Pass ⟨0, 0, 0, 0⟩)
abbrev sTInit : Stmt := inClass (top 12) 0
abbrev sTakes : Stmt := inClass (top 12) 1
abbrev sTaken : Stmt := top 13
abbrev sFirst : Stmt := top 14
abbrev sWorth : Stmt := top 15
abbrev sRkW : Stmt := top 16
abbrev sRkS : Stmt := top 17
abbrev sLine : Stmt := top 18
abbrev sLast : Stmt := top 19
abbrev sKept : Stmt := top 20
abbrev sCInit : Stmt := inClass (top 21) 0
abbrev sThingsOf : Stmt := inClass (top 21) 1
abbrev sBegins : Stmt := inClass (top 21) 2
abbrev sThing : Stmt := inClass (top 21) 3
abbrev sCheck : Stmt := inClass (top 21) 4
abbrev sFore : Stmt := inClass (top 21) 5
abbrev sBest : Stmt := inClass (top 21) 6
abbrev sMost : Stmt := inClass (top 21) 7
abbrev sPlain : Stmt := inClass (top 21) 8
abbrev sEnough : Stmt := inClass (top 21) 9
abbrev sCall : Stmt := top 22
abbrev sAns : Stmt := top 23

/-! ### how things and the cupboard lie in the heap -/
theorem lk_here {k : Str} {v : V} {r : List (Str × V)} : List.lookup k ((k, v) :: r) = some v := by
  have e : (k == k) = true := beq_self_eq_true k
  simp only [List.lookup, e]
theorem lk_past {k g : Str} {v : V} {r : List (Str × V)} (h : (k == g) = false) : List.lookup k ((g, v) :: r) = List.lookup k r := by
  simp only [List.lookup, h]
theorem put_here {f : Str} {v x : V} {r : List (Str × V)} : putF f v ((f, x) :: r) = (f, v) :: r := if_pos rfl
theorem put_past {f g : Str} {v x : V} {r : List (Str × V)} (h : ¬ g = f) : putF f v ((g, x) :: r) = (g, x) :: putF f v r := if_neg h

def tF (t : Thing) : List (Str × V) := [("comes", .int (t.comes : Nat)), ("asked_for", .int (t.asked : Nat)), ("worth", .int (t.worth : Nat))]
def ThingAt (CT : Addr) (H : Hp) (a : Addr) (t : Thing) : Prop := ∃ dx, H a = some (.ins CT dx (tF t))
theorem tF_comes (t : Thing) : (tF t).lookup ("comes" : Str) = some (.int (t.comes : Nat)) := lk_here
theorem tF_asked (t : Thing) : (tF t).lookup ("asked_for" : Str) = some (.int (t.asked : Nat)) := (lk_past (by decide +kernel)).trans lk_here
theorem tF_worth (t : Thing) : (tF t).lookup ("worth" : Str) = some (.int (t.worth : Nat)) := (lk_past (by decide +kernel)).trans ((lk_past (by decide +kernel)).trans lk_here)
theorem tF_new (t : Thing) : putF "worth" (.int (t.worth : Nat)) (putF "asked_for" (.int (t.asked : Nat)) (putF "comes" (.int (t.comes : Nat)) [])) = tF t := by
  show putF "worth" _ (putF "asked_for" _ [("comes", _)]) = _
  rw [put_past (by decide +kernel)]
  show putF "worth" _ [("comes", _), ("asked_for", _)] = _
  rw [put_past (by decide +kernel), put_past (by decide +kernel)]
  rfl
/-- things with their places -/
abbrev Rows := List (Addr × Thing)
def refs (ps : Rows) : List V := ps.map fun p => V.ref p.1
def vals (ps : Rows) : List Thing := ps.map fun p => p.2
def AllAt (CT : Addr) (H : Hp) (ps : Rows) : Prop := ∀ p ∈ ps, ThingAt CT H p.1 p.2
theorem AllAt.same {CT : Addr} {H H' : Hp} {ps : Rows} (h : AllAt CT H ps) (s : Same H H') : AllAt CT H' ps := fun p hp =>
  let ⟨dx, e⟩ := h p hp
  ⟨dx, s _ _ e⟩
theorem refs_at {ps : Rows} {i : Nat} {x : V} (h : (refs ps)[i]? = some x) : ∃ p, ps[i]? = some p ∧ x = V.ref p.1 := by
  unfold refs at h
  rw [List.getElem?_map] at h
  cases e : ps[i]? with
  | none => rw [e] at h; cases h
  | some p => rw [e] at h; exact ⟨p, rfl, (Option.some.inj h).symm⟩
theorem take_more {α : Type} : ∀ {l : List α} {i : Nat} {x : α}, l[i]? = some x → l.take (i + 1) = l.take i ++ [x]
  | [], i, x, h => by simp at h
  | a :: l, 0, x, h => by
    have e : a = x := Option.some.inj h
    subst e
    rfl
  | a :: l, i + 1, x, h => by
    have ih := take_more (l := l) (i := i) (x := x) h
    show a :: l.take (i + 1) = a :: l.take i ++ [x]
    rw [ih]
    rfl
theorem same_new {H : Hp} {p : Addr} {o : HO} (h : H p = none) : Same H (upd H p o) := fun b o' e => by
  rw [upd_ne (ne_of_none e h)]
  exact e
/-- a store to what H didn't have -/
theorem same_at {H H' : Hp} {p : Addr} {o : HO} (h : H p = none) (s : Same H H') : Same H (upd H' p o) := fun b o' e => by
  rw [upd_ne (ne_of_none e h)]
  exact s _ _ e

theorem if_true_of {c : Bool} {A B : Prop} (hc : c = true) (h : A) : if c = true then A else B := by
  rw [if_pos hc]
  exact h
theorem if_false_of {c : Bool} {A B : Prop} (hc : c = false) (h : B) : if c = true then A else B := by
  rw [hc, if_neg Bool.false_ne_true]
  exact h

/-! ### what the top has written -/
structure Txt (K : PySem.W.Frag) (mg : Str → Option Value) (CT CC : Addr) : Prop where
  clT : Cls K CT
  nCo : NoAttr K CT "comes"
  nAs : NoAttr K CT "asked_for"
  nWo : NoAttr K CT "worth"
  clC : Cls K CC
  nPl : NoAttr K CC "places"
  nTh : NoAttr K CC "things"
  gT : mg "Thing" = some (.ref CT)
  gC : mg "Cupboard" = some (.ref CC)
  len : mg "len" = none
  sorted : mg "sorted" = none
  sum : mg "sum" = none
  enumerate : mg "enumerate" = none
  range : mg "range" = none
  max : mg "max" = none
  mp : ∃ t, mg "MOST_PLACES" = some (.int 5 t)
  mt : ∃ t, mg "MOST_THINGS" = some (.int 9 t)
  ld : ∃ t, mg "LAST_DAY" = some (.int 365 t)
  mw : ∃ t, mg "MOST_WORTH" = some (.int 1000 t)
  beg : ∃ t, mg "BEGINS" = some (.int 0 t)
  thg : ∃ t, mg "THING" = some (.int 1 t)
  chk : ∃ t, mg "CHECK" = some (.int 2 t)
  bst : ∃ t, mg "BEST" = some (.int 3 t)
  mst : ∃ t, mg "MOST" = some (.int 4 t)
  pln : ∃ t, mg "PLAIN" = some (.int 5 t)
  nb : ∃ N, mg "NUMBERS_BEHIND" = some (.ref N) ∧ ∀ H, SqT K H N [.int 1, .int 3, .int 1, .int 0, .int 0, .int 0, .int 0]

section
variable {P : Program} {w : World} {K : PySem.W.Frag} {mg : Str → Option Value} {base : Heap} {CT CC : Addr}

/-! ### Thing.__init__ -/
def spTInit (CT : Addr) : Sp := fun vs H Q _ => ∃ (p dx : Addr) (t : Thing), vs = [.ref p, .int (t.comes : Nat), .int (t.asked : Nat), .int (t.worth : Nat)] ∧ H p = some (.ins CT dx []) ∧
  ∀ H' : Hp, ThingAt CT H' p t → (∀ b o, H b = some o → b ≠ p → H' b = some o) → Q .non H'
theorem scTI : FnScope ["self", "comes", "asked_for", "worth"] ["self", "comes", "asked_for", "worth"] (defScope sTInit) := ⟨rfl, rfl, rfl, by decide +kernel, rfl, by decide +kernel, by decide +kernel⟩
theorem ok_tinit {f : Addr} {fd : FuncData} (F : Fun K "__init__" "Thing.__init__" sTInit f fd) (T : Txt K mg CT CC) : FnOk P w K mg base CX0 1 f fd ["self", "comes", "asked_for", "worth"] (spTInit CT) := by
  refine F.ok scTI (fun vs H Q E h => ?_) (fun cdv A outer s H vs Q E hr h => ⟨_, pss_cons (ps_fld (pv 0) (pv 1) rfl) (pss_cons (ps_fld (pv 0) (pv 2) rfl) (pss_one (ps_fld (pv 0) (pv 3) rfl))), ?_⟩)
  · obtain ⟨p, dx, t, rfl, _⟩ := h
    rfl
  · obtain ⟨p, dx, t, rfl, hp, k⟩ := h
    refine ⟨_, rfl, _, rfl, p, CT, dx, [], rfl, hp, T.clT, T.nCo, (by show 0 < 1000; decide), ?_⟩
    refine ⟨_, rfl, _, rfl, p, CT, dx, _, rfl, upd_same, T.clT, T.nAs, (by show 1 < 1000; decide), ?_⟩
    refine ⟨_, rfl, _, rfl, p, CT, dx, _, rfl, upd_same, T.clT, T.nWo, (by show 2 < 1000; decide), ?_⟩
    exact k _ ⟨dx, Eq.trans upd_same (congrArg (fun q => some (HO.ins CT dx q)) (tF_new t))⟩ fun b o e hb => by
      rw [upd_ne hb, upd_ne hb, upd_ne hb]
      exact e

/-! ### Thing.takes_a_place -/
def spTakes (CT : Addr) : Sp := fun vs H Q _ => ∃ (p : Addr) (t : Thing) (d : Nat), vs = [.ref p, .int (d : Nat)] ∧ ThingAt CT H p t ∧ ∀ H' : Hp, Same H H' → Q (.bl (there d t)) H'
theorem scTP : FnScope ["self", "day"] ["self", "day"] (defScope sTakes) := ⟨rfl, rfl, rfl, by decide +kernel, rfl, by decide +kernel, by decide +kernel⟩
theorem ok_takes {f : Addr} {fd : FuncData} (F : Fun K "takes_a_place" "Thing.takes_a_place" sTakes f fd) (T : Txt K mg CT CC) : FnOk P w K mg base CX0 1 f fd ["self", "day"] (spTakes CT) := by
  refine F.ok scTP (fun vs H Q E h => ?_) (fun cdv A outer s H vs Q E hr h => ⟨_, pss_one (ps_ret (pe_chain op_le op_lt (pe_fld (pv 0) rfl) (pv 1) (pe_fld (pv 0) rfl))), ?_⟩)
  · obtain ⟨p, t, d, rfl, _⟩ := h
    rfl
  · obtain ⟨p, t, d, rfl, ⟨dx, hp⟩, k⟩ := h
    have k0 := k H (Same.refl H)
    refine ⟨_, rfl, p, CT, dx, _, _, rfl, hp, T.clT, T.nCo, tF_comes _, _, rfl, _, _, rfl, rfl, _, rfl, ?_⟩
    by_cases c : t.comes ≤ d
    · refine if_true_of (decide_eq_true (Int.ofNat_le.mpr c)) ?_
      refine ⟨_, rfl, p, CT, dx, _, _, rfl, hp, T.clT, T.nAs, tF_asked _, _, _, rfl, rfl, ?_⟩
      have e : decide ((d : Int) < (t.asked : Nat)) = there d t := by
        unfold there
        rw [decide_eq_true c, Bool.true_and]
        exact decide_eq_decide.mpr Int.ofNat_lt
      show Q (.bl (decide ((d : Int) < (t.asked : Nat)))) H
      rw [e]
      exact k0
    · refine if_false_of (decide_eq_false (fun z => c (Int.ofNat_le.mp z))) ?_
      have e : there d t = false := by
        unfold there
        rw [decide_eq_false c, Bool.false_and]
      rw [e] at k0
      exact k0
/-- the method, where it stands -/
structure PlaceM (K : PySem.W.Frag) (CT fP : Addr) (dP : FuncData) : Prop where
  F : Fun K "takes_a_place" "Thing.takes_a_place" sTakes fP dP
  b : Binds K dP ["self", "day"] []
  m : Meth K CT "takes_a_place" fP
theorem tF_no (t : Thing) : (tF t).lookup ("takes_a_place" : Str) = none := (lk_past (by decide +kernel)).trans ((lk_past (by decide +kernel)).trans ((lk_past (by decide +kernel)).trans rfl))

/-! ### places_taken -/
def spTaken (K : PySem.W.Frag) (CT : Addr) : Sp := fun vs H Q _ => ∃ (L : Addr) (ps : Rows) (d : Nat), vs = [.ref L, .int (d : Nat)] ∧ SqL K H L (refs ps) ∧ AllAt CT H ps ∧ ps.length ≤ 1000 ∧
  ∀ H' : Hp, Same H H' → Q (.int (takenOf (vals ps) d : Nat)) H'
theorem scPT : FnScope ["things", "day", "thing"] ["things", "day"] (defScope sTaken) := ⟨rfl, rfl, rfl, by decide +kernel, rfl, by decide +kernel, by decide +kernel⟩
/-- the rows of those that take a place -/
def present (d : Nat) (ps : Rows) : Rows := ps.filter fun p => there d p.2
theorem present_more {d : Nat} {ps : Rows} {i : Nat} {p : Addr × Thing} (h : ps[i]? = some p) : present d (ps.take (i + 1)) = present d (ps.take i) ++ if there d p.2 = true then [p] else [] := by
  unfold present
  rw [take_more h, List.filter_append]
  congr 1
  cases e : there d p.2 <;> simp [e]
theorem present_len (d : Nat) (ps : Rows) : (present d ps).length = takenOf (vals ps) d := by
  unfold present takenOf vals
  rw [List.filter_map, List.length_map]
  rfl
theorem ok_taken {f fP : Addr} {fd dP : FuncData} (F : Fun K "places_taken" "places_taken" sTaken f fd) (T : Txt K mg CT CC) (M : PlaceM K CT fP dP) : FnOk P w K mg base CX0 2 f fd ["things", "day"] (spTaken K CT) := by
  have GP : FnOk P w K mg base CX0 1 fP dP ["self", "day"] (spTakes CT) := ok_takes M.F T
  refine F.ok scPT (fun vs H Q E h => ?_) (fun cdv A outer s H vs Q E hr h => ⟨_, pss_one (ps_ret (pe_callB call_len_seq (by rfl) T.len PySem.boot_len (pa_cons
    (pe_lc (own := [("thing", 2)]) (g := gName 2) (tt := tB (tMeth CT "takes_a_place" (spTakes CT) [] E0 (tVar 2) (tCons (tVar 1) tNil))) (te := tVar 2) (by rfl) scPT.nd (pi_list (pv 0)) (blkOk_by (own := [("thing", 2)]) (N := ["things", "day", "thing"]) (sc := defScope sTaken) (by decide +kernel))
      (fun _ _ _ _ _ => pg_name (i := 2) scPT.nd rfl (Or.inl rfl)) (fun _ _ _ _ _ => pts_one (pt_val (pe_meth (pv 2) T.clT M.m GP hr M.b .nil pass0 (pa_cons (pv 1) pa_nil)))) (fun _ _ _ _ _ => pv 2)) pa_nil))), ?_⟩)
  · obtain ⟨L, ps, d, rfl, _⟩ := h
    rfl
  · obtain ⟨L, ps, d, rfl, hS, hA, hl, k⟩ := h
    refine ⟨_, rfl, L, rfl, ⟨_, hS⟩, fun D hD => lc_list (K := K) (a := L) (xs := refs ps) (fun i H' => Same H H' ∧ H' D = some (.lst (refs (present d (ps.take i))))) ⟨same_new hD, upd_same⟩ (fun i H' _ q => q.1.seq hS) ?_ ?_⟩
    · rintro i x H' hx ⟨sm, hd⟩
      obtain ⟨p, hp, rfl⟩ := refs_at hx
      obtain ⟨dx, hpt⟩ := (hA.same sm) p (List.mem_of_getElem? hp)
      have more := present_more (d := d) hp
      have keep2 : there d p.2 = true → ∀ H2, Same H' H2 → ∃ acc, H2 D = some (.lst acc) ∧ acc.length < sizeLine ∧ (Same H (upd H2 D (.lst (acc ++ [V.ref p.1]))) ∧ upd H2 D (.lst (acc ++ [V.ref p.1])) D = some (.lst (refs (present d (ps.take (i + 1)))))) := fun e H2 s2 => by
        refine ⟨_, s2 _ _ hd, ?_, same_at hD (sm.trans s2), ?_⟩
        · unfold refs present
          rw [List.length_map]
          exact small1000 (Nat.le_trans (List.length_filter_le _ _) (Nat.le_trans (List.length_take_le' _ _) hl))
        · rw [upd_same, more, if_pos e]
          unfold refs
          rw [List.map_append]
          rfl
      have drop2 : there d p.2 = false → ∀ H2, Same H' H2 → Same H H2 ∧ H2 D = some (.lst (refs (present d (ps.take (i + 1))))) := fun e H2 s2 => by
        rw [more, e, if_neg Bool.false_ne_true, List.append_nil]
        exact ⟨sm.trans s2, s2 _ _ hd⟩
      refine ⟨rfl, ?_⟩
      refine ⟨_, rfl, p.1, dx, _, rfl, hpt, tF_no _, _, rfl, p.1, p.2, d, rfl, ⟨dx, hpt⟩, fun H2 s2 => ⟨_, rfl, ?_⟩⟩
      cases e : there d p.2 with
      | true =>
        refine if_true_of rfl ?_
        exact ⟨_, rfl, keep2 e H2 s2⟩
      | false =>
        refine if_false_of rfl ?_
        exact drop2 e H2 s2
    · rintro H' ⟨sm, hd⟩
      have e : (refs ps).length = ps.length := List.length_map _
      rw [e, List.take_length] at hd
      refine ⟨D, _, rfl, .inl (SqL.of hd), ?_⟩
      have e2 : ((refs (present d ps)).length : Int) = (takenOf (vals ps) d : Nat) := by
        rw [← present_len]
        unfold refs
        rw [List.length_map]
      rw [e2]
      exact k _ sm
end
end Cup

namespace Cup
open PySem PySem.Spec PyProof.Rows L2
open Si89 (Thing)
section
variable {P : Program} {w : World} {K : PySem.W.Frag} {mg : Str → Option Value} {base : Heap} {CT CC : Addr}

/-! ### first_overfull_day -/
def nats (l : List Nat) : List Int := l.map fun n : Nat => (n : Int)
theorem nats_back {ns : List Int} {l : List Nat} (h : ns.Perm (nats l)) : ∃ days : List Nat, ns = nats days ∧ days.Perm l := by
  refine ⟨ns.map Int.toNat, ?_, ?_⟩
  · unfold nats
    rw [List.map_map]
    have : ∀ x ∈ ns, ((fun n : Nat => (n : Int)) ∘ Int.toNat) x = x := fun x hx => by
      obtain ⟨n, _, rfl⟩ := List.mem_map.mp (h.mem_iff.mp hx)
      rfl
    rw [List.map_congr_left this, List.map_id']
  · have e := h.map Int.toNat
    unfold nats at e
    rw [List.map_map] at e
    have : ∀ x ∈ l, (Int.toNat ∘ fun n : Nat => (n : Int)) x = x := fun x _ => rfl
    rw [List.map_congr_left this, List.map_id'] at e
    exact e
theorem nats_rising {days : List Nat} (h : (nats days).Pairwise (· ≤ ·)) : days.Pairwise (· ≤ ·) := by
  unfold nats at h
  rw [List.pairwise_map] at h
  exact h.imp fun z => Int.ofNat_le.mp z
def dayV : Option Nat → V
  | none => .non
  | some d => .int (d : Nat)
def comesR (ps : Rows) : List Nat := ps.map fun p => p.2.comes
theorem comesR_vals (ps : Rows) : comesR ps = comesOf (vals ps) := by
  unfold comesR comesOf vals
  rw [List.map_map]
  rfl
def intsV (l : List Nat) : List V := (nats l).map V.int
theorem intsV_more (l : List Nat) (n : Nat) : intsV (l ++ [n]) = intsV l ++ [V.int (n : Nat)] := by
  unfold intsV nats
  rw [List.map_append, List.map_append]
  rfl
theorem intsV_len (l : List Nat) : (intsV l).length = l.length := by
  unfold intsV nats
  rw [List.length_map, List.length_map]
theorem intsV_at {l : List Nat} {i : Nat} {x : V} (h : (intsV l)[i]? = some x) : ∃ n, l[i]? = some n ∧ x = V.int (n : Nat) := by
  unfold intsV nats at h
  rw [List.getElem?_map, List.getElem?_map] at h
  cases e : l[i]? with
  | none => rw [e] at h; cases h
  | some p => rw [e] at h; exact ⟨p, rfl, (Option.some.inj h).symm⟩
def spFirst (K : PySem.W.Frag) (CT : Addr) : Sp := fun vs H Q _ => ∃ (L : Addr) (ps : Rows) (n : Nat), vs = [.ref L, .int (n : Nat)] ∧ SqL K H L (refs ps) ∧ AllAt CT H ps ∧ ps.length ≤ 9 ∧
  ∀ (H' : Hp) (days : List Nat), Same H H' → days.Perm (comesOf (vals ps)) → days.Pairwise (· ≤ ·) → Q (dayV (firstOf (vals ps) n days)) H'
theorem scFO : FnScope ["things", "places", "day", "thing"] ["things", "places"] (defScope sFirst) := ⟨rfl, rfl, rfl, by decide +kernel, rfl, by decide +kernel, by decide +kernel⟩
theorem ok_first {f fT fP : Addr} {fd fdT dP : FuncData} (M : PlaceM K CT fP dP) (F : Fun K "first_overfull_day" "first_overfull_day" sFirst f fd) (T : Txt K mg CT CC)
    (FT : Fun K "places_taken" "places_taken" sTaken fT fdT) (bT : Binds K fdT ["things", "day"] []) (mT : mg "places_taken" = some (.ref fT)) : FnOk P w K mg base CX0 3 f fd ["things", "places"] (spFirst K CT) := by
  have GT : FnOk P w K mg base CX0 2 fT fdT ["things", "day"] (spTaken K CT) := ok_taken FT T M
  refine F.ok scFO (fun vs H Q E h => ?_) (fun cdv A outer s H vs Q E hr h => ⟨_, pss_cons (ps_for PassesOwn.never rfl (pi_list (pe_callB cr_sorted (by rfl) T.sorted (by decide +kernel) (pa_cons
    (pe_lc (own := [("thing", 3)]) (g := gName 3) (tt := tYes) (te := tFld K (tVar 3) "comes") (by rfl) scFO.nd (pi_list (pv 0)) (blkOk_by (own := [("thing", 3)]) (N := ["things", "places", "day", "thing"]) (sc := defScope sFirst) (by decide +kernel))
      (fun _ _ _ _ _ => pg_name (i := 3) scFO.nd rfl (Or.inl rfl)) (fun _ _ _ _ _ => pts_nil) (fun _ _ _ _ _ => pe_fld (pv 3) rfl)) pa_nil))) (pg_name (i := 2) scFO.nd rfl (Or.inl rfl))
      (pss_one (ps_if (pt_cmpR op_gt (pe_call GT hr (by rfl) mT FT.kp bT .nil pass0 (pa_cons (pv 0) (pa_cons (pv 2) pa_nil))) (pv 1) (nomark _)) (pss_one (ps_ret (pv 2))) pss_nil)))
      (pss_one (ps_ret pe_non)), ?_⟩)
  · obtain ⟨L, ps, d, rfl, _⟩ := h
    rfl
  · obtain ⟨L, ps, n, rfl, hS, hA, hl, k⟩ := h
    have e9 : (refs ps).length = ps.length := List.length_map _
    refine ⟨_, rfl, L, rfl, ⟨_, hS⟩, fun D hD => lc_list (K := K) (a := L) (xs := refs ps) (fun i H' => Same H H' ∧ H' D = some (.lst (intsV (comesR (ps.take i))))) ⟨same_new hD, upd_same⟩ (fun i H' _ q => q.1.seq hS) ?_ ?_⟩
    · rintro i x H' hx ⟨sm, hd⟩
      obtain ⟨p, hp, rfl⟩ := refs_at hx
      obtain ⟨dx, hpt⟩ := (hA.same sm) p (List.mem_of_getElem? hp)
      refine ⟨rfl, ?_⟩
      refine ⟨_, rfl, p.1, CT, dx, _, _, rfl, hpt, T.clT, T.nCo, tF_comes _, ?_⟩
      refine ⟨_, hd, ?_, same_at hD sm, ?_⟩
      · rw [intsV_len]
        unfold comesR
        rw [List.length_map]
        exact small1000 (Nat.le_trans (List.length_take_le' _ _) (by omega))
      · rw [upd_same, take_more hp]
        unfold comesR
        rw [List.map_append]
        exact congrArg (fun q => some (HO.lst q)) (intsV_more _ _).symm
    · rintro H1 ⟨sm, hd⟩
      rw [e9, List.take_length] at hd
      refine ⟨D, nats (comesR ps), rfl, SqL.of hd, ?_, fun ns S pm ri hS0 => ?_⟩
      · unfold nats comesR
        rw [List.length_map, List.length_map]
        omega
      obtain ⟨days, rfl, pd⟩ := nats_back pm
      have rd := nats_rising ri
      have sm1 : Same H (upd H1 S (.lst ((nats days).map V.int))) := sm.trans (same_new hS0)
      refine ⟨S, rfl, ⟨_, SqL.of upd_same⟩, for_list (K := K) (a := S) (xs := intsV days) (fun i σ H' => ∃ v : Option V, σ = [some (.ref L), some (.int (n : Nat)), v, none] ∧ Same H H' ∧ H' S = some (.lst (intsV days)) ∧ (days.take i).find? (fun d => decide (n < takenOf (vals ps) d)) = none)
        ⟨none, rfl, sm1, upd_same, rfl⟩ (fun i σ H' _ ⟨_, _, _, q, _⟩ => SqL.of q) ?_ ?_⟩
      · rintro i x σ H' hx ⟨v, rfl, sm', hs', no⟩
        obtain ⟨d, hd', rfl⟩ := intsV_at hx
        refine ⟨_, rfl, _, rfl, L, ps, d, rfl, sm'.seq hS, hA.same sm', by omega, fun H2 sm2 => ?_⟩
        refine ⟨_, rfl, _, _, rfl, rfl, _, rfl, ?_⟩
        by_cases c : n < takenOf (vals ps) d
        · refine if_true_of (decide_eq_true (Int.ofNat_lt.mpr c)) ?_
          refine ⟨_, rfl, ?_⟩
          have e : firstOf (vals ps) n days = some d := by
            unfold firstOf
            have e1 : days = days.take (i + 1) ++ days.drop (i + 1) := (List.take_append_drop _ _).symm
            rw [e1, take_more hd', List.append_assoc, List.find?_append, no, Option.none_or, List.singleton_append, List.find?_cons_of_pos (by rw [decide_eq_true c])]
          have := k H2 days (sm'.trans sm2) (by rw [← comesR_vals]; exact pd) rd
          rw [e] at this
          exact this
        · refine if_false_of (decide_eq_false (fun z => c (Int.ofNat_lt.mp z))) ?_
          refine ⟨_, rfl, sm'.trans sm2, sm2 _ _ hs', ?_⟩
          rw [take_more hd', List.find?_append, no, Option.none_or, List.find?_cons_of_neg (by rw [decide_eq_false c]; exact Bool.false_ne_true), List.find?_nil]
      · rintro σ H' ⟨v, rfl, sm', hs', no⟩
        rw [intsV_len, List.take_length] at no
        have := k H' days sm' (by rw [← comesR_vals]; exact pd) rd
        unfold firstOf at this
        rw [no] at this
        exact this

/-! ### worth_together -/
def worthR (ps : Rows) : List Nat := ps.map fun p => p.2.worth
theorem nats_sum : ∀ l : List Nat, (nats l).sum = (l.sum : Nat)
  | [] => rfl
  | a :: l => by
    have ih := nats_sum l
    show ((a : Int) :: nats l).sum = ((a :: l).sum : Nat)
    rw [List.sum_cons, List.sum_cons, ih]
    omega
theorem worthR_sum (ps : Rows) : (worthR ps).sum = worthOf (vals ps) := by
  unfold worthR worthOf vals
  rw [List.map_map]
  rfl
def spWorth (K : PySem.W.Frag) (CT : Addr) : Sp := fun vs H Q _ => ∃ (L : Addr) (ps : Rows), vs = [.ref L] ∧ SqL K H L (refs ps) ∧ AllAt CT H ps ∧ ps.length ≤ 9 ∧
  ∀ (H' : Hp), Same H H' → Q (.int (worthOf (vals ps) : Nat)) H'
theorem scWT : FnScope ["things", "thing"] ["things"] (defScope sWorth) := ⟨rfl, rfl, rfl, by decide +kernel, rfl, by decide +kernel, by decide +kernel⟩
theorem ok_worth {f : Addr} {fd : FuncData} (F : Fun K "worth_together" "worth_together" sWorth f fd) (T : Txt K mg CT CC) : FnOk P w K mg base CX0 1 f fd ["things"] (spWorth K CT) := by
  refine F.ok scWT (fun vs H Q E h => ?_) (fun cdv A outer s H vs Q E hr h => ⟨_, pss_one (ps_ret (pe_callB (cr_sum rfl) (by rfl) T.sum (by decide +kernel) (pa_cons
    (pe_lc (own := [("thing", 1)]) (g := gName 1) (tt := tYes) (te := tFld K (tVar 1) "worth") (by rfl) scWT.nd (pi_list (pv 0)) (blkOk_by (own := [("thing", 1)]) (N := ["things", "thing"]) (sc := defScope sWorth) (by decide +kernel))
      (fun _ _ _ _ _ => pg_name (i := 1) scWT.nd rfl (Or.inl rfl)) (fun _ _ _ _ _ => pts_nil) (fun _ _ _ _ _ => pe_fld (pv 1) rfl)) pa_nil))), ?_⟩)
  · obtain ⟨L, ps, rfl, _⟩ := h
    rfl
  · obtain ⟨L, ps, rfl, hS, hA, hl, k⟩ := h
    have e9 : (refs ps).length = ps.length := List.length_map _
    refine ⟨_, rfl, L, rfl, ⟨_, hS⟩, fun D hD => lc_list (K := K) (a := L) (xs := refs ps) (fun i H' => Same H H' ∧ H' D = some (.lst (intsV (worthR (ps.take i))))) ⟨same_new hD, upd_same⟩ (fun i H' _ q => q.1.seq hS) ?_ ?_⟩
    · rintro i x H' hx ⟨sm, hd⟩
      obtain ⟨p, hp, rfl⟩ := refs_at hx
      obtain ⟨dx, hpt⟩ := (hA.same sm) p (List.mem_of_getElem? hp)
      refine ⟨rfl, ?_⟩
      refine ⟨_, rfl, p.1, CT, dx, _, _, rfl, hpt, T.clT, T.nWo, tF_worth _, ?_⟩
      refine ⟨_, hd, ?_, same_at hD sm, ?_⟩
      · rw [intsV_len]
        unfold worthR
        rw [List.length_map]
        exact small1000 (Nat.le_trans (List.length_take_le' _ _) (by omega))
      · rw [upd_same, take_more hp]
        unfold worthR
        rw [List.map_append]
        exact congrArg (fun q => some (HO.lst q)) (intsV_more _ _).symm
    · rintro H1 ⟨sm, hd⟩
      rw [e9, List.take_length] at hd
      refine ⟨D, nats (worthR ps), rfl, SqL.of hd, ?_⟩
      rw [nats_sum, worthR_sum]
      exact k _ sm

/-! ### the two ranks -/
/-- a pair of two counts of what is handed in -/
def spRank (K : PySem.W.Frag) (CT : Addr) (f g : List Thing → Nat) : Sp := fun vs H Q _ => ∃ (L : Addr) (ps : Rows), vs = [.ref L] ∧ SqL K H L (refs ps) ∧ AllAt CT H ps ∧ ps.length ≤ 9 ∧
  ∀ (H' : Hp) (t : Addr), Same H H' → H t = none → H' t = some (.tup [.int (f (vals ps) : Nat), .int (g (vals ps) : Nat)]) → Q (.ref t) H'
theorem scRW : FnScope ["things"] ["things"] (defScope sRkW) := ⟨rfl, rfl, rfl, by decide +kernel, rfl, by decide +kernel, by decide +kernel⟩
theorem scRS : FnScope ["things"] ["things"] (defScope sRkS) := ⟨rfl, rfl, rfl, by decide +kernel, rfl, by decide +kernel, by decide +kernel⟩
theorem refs_len (ps : Rows) : ((refs ps).length : Int) = ((vals ps).length : Nat) := by
  unfold refs vals
  rw [List.length_map, List.length_map]
theorem ok_rankW {f fW : Addr} {fd dW : FuncData} (F : Fun K "worth_then_how_many" "worth_then_how_many" sRkW f fd) (T : Txt K mg CT CC) (FW : Fun K "worth_together" "worth_together" sWorth fW dW) (bW : Binds K dW ["things"] []) (mW : mg "worth_together" = some (.ref fW)) :
    FnOk P w K mg base CX0 2 f fd ["things"] (spRank K CT worthOf List.length) := by
  have GW : FnOk P w K mg base CX0 1 fW dW ["things"] (spWorth K CT) := ok_worth FW T
  refine F.ok scRW (fun vs H Q E h => ?_) (fun cdv A outer s H vs Q E hr h => ⟨_, pss_one (ps_ret (pe_tup (pa_cons (pe_call GW hr (by rfl) mW FW.kp bW .nil pass0 (pa_cons (pv 0) pa_nil)) (pa_cons (pe_callB call_len_seq (by rfl) T.len PySem.boot_len (pa_cons (pv 0) pa_nil)) pa_nil)))), ?_⟩)
  · obtain ⟨L, ps, rfl, _⟩ := h
    rfl
  · obtain ⟨L, ps, rfl, hS, hA, hl, k⟩ := h
    refine ⟨_, rfl, L, ps, rfl, hS, hA, hl, fun H1 sm => ?_⟩
    refine ⟨_, rfl, L, refs ps, rfl, .inl (sm.seq hS), (by show 2 ≤ sizeLine; decide), fun t ht => ?_⟩
    refine k _ t (sm.trans (same_new ht)) (sm.free ht) ?_
    rw [upd_same, refs_len]
theorem ok_rankS {f fW : Addr} {fd dW : FuncData} (F : Fun K "how_many_then_worth" "how_many_then_worth" sRkS f fd) (T : Txt K mg CT CC) (FW : Fun K "worth_together" "worth_together" sWorth fW dW) (bW : Binds K dW ["things"] []) (mW : mg "worth_together" = some (.ref fW)) :
    FnOk P w K mg base CX0 2 f fd ["things"] (spRank K CT List.length worthOf) := by
  have GW : FnOk P w K mg base CX0 1 fW dW ["things"] (spWorth K CT) := ok_worth FW T
  refine F.ok scRS (fun vs H Q E h => ?_) (fun cdv A outer s H vs Q E hr h => ⟨_, pss_one (ps_ret (pe_tup (pa_cons (pe_callB call_len_seq (by rfl) T.len PySem.boot_len (pa_cons (pv 0) pa_nil)) (pa_cons (pe_call GW hr (by rfl) mW FW.kp bW .nil pass0 (pa_cons (pv 0) pa_nil)) pa_nil)))), ?_⟩)
  · obtain ⟨L, ps, rfl, _⟩ := h
    rfl
  · obtain ⟨L, ps, rfl, hS, hA, hl, k⟩ := h
    refine ⟨_, rfl, L, refs ps, rfl, .inl hS, ?_⟩
    refine ⟨_, rfl, L, ps, rfl, hS, hA, hl, fun H1 sm => ⟨(by show 2 ≤ sizeLine; decide), fun t ht => ?_⟩⟩
    refine k _ t (sm.trans (same_new ht)) (sm.free ht) ?_
    rw [upd_same, refs_len]
end
end Cup

namespace Cup
open PySem PySem.Spec PyProof.Rows L2
open Si89 (Thing Cupboard)

/-! ### the rows of a set -/
def sel (s : Nat) (ps : Rows) : Rows := (ps.zipIdx.filter fun q => s.testBit q.2).map fun q => q.1
theorem sel_more {s : Nat} {ps : Rows} {i : Nat} {p : Addr × Thing} (h : ps[i]? = some p) : sel s (ps.take (i + 1)) = sel s (ps.take i) ++ if s.testBit i = true then [p] else [] := by
  have hi : i < ps.length := (List.getElem?_eq_some_iff.mp h).1
  unfold sel
  rw [take_more h, List.zipIdx_append, List.filter_append, List.map_append, List.length_take, Nat.min_eq_left (by omega)]
  congr 1
  show ((([(p, 0 + i)] : List ((Addr × Thing) × Nat)).filter fun q => s.testBit q.2).map fun q => q.1) = _
  rw [Nat.zero_add]
  cases e : s.testBit i <;> simp [e]
theorem sel_sub {s : Nat} {ps : Rows} {p : Addr × Thing} (h : p ∈ sel s ps) : p ∈ ps := by
  unfold sel at h
  obtain ⟨q, hq, rfl⟩ := List.mem_map.mp h
  exact List.fst_mem_of_mem_zipIdx (List.mem_filter.mp hq).1
theorem sel_len (s : Nat) (ps : Rows) : (sel s ps).length ≤ ps.length := by
  unfold sel
  rw [List.length_map]
  exact Nat.le_trans (List.length_filter_le _ _) (by rw [List.length_zipIdx]; exact Nat.le_refl _)
theorem sel_vals {c : Cupboard} {ps : Rows} (e : vals ps = c.things) (s : Nat) : ∀ i, i ≤ ps.length → vals (sel s (ps.take i)) = ((List.range i).filter fun k => s.testBit k).map c.thing
  | 0, _ => rfl
  | i + 1, h => by
    have ih := sel_vals e s i (by omega)
    have hp : ps[i]? = some ps[i] := by simp
    rw [sel_more hp, List.range_succ, List.filter_append, List.map_append, ← ih]
    unfold vals
    rw [List.map_append]
    congr 1
    have ht : c.thing i = (ps[i]).2 := by
      unfold Cupboard.thing
      rw [← e]
      unfold vals
      rw [List.getD_eq_getElem?_getD, List.getElem?_map, hp]
      rfl
    cases b : s.testBit i <;> simp [b, ht]
theorem sel_pick {c : Cupboard} {ps : Rows} (e : vals ps = c.things) (s : Nat) : vals (sel s ps) = pick c s := by
  have n : c.count = ps.length := by
    unfold Cupboard.count
    rw [← e]
    exact List.length_map _
  have := sel_vals e s ps.length (Nat.le_refl _)
  rw [List.take_length] at this
  rw [this]
  unfold pick Cupboard.members Cupboard.all_
  rw [n]

/-! ### the cupboard in the heap -/
def cF (n : Nat) (L : Addr) : List (Str × V) := [("places", .int (n : Nat)), ("things", .ref L)]
theorem cF_places (n : Nat) (L : Addr) : (cF n L).lookup ("places" : Str) = some (.int (n : Nat)) := lk_here
theorem cF_things (n : Nat) (L : Addr) : (cF n L).lookup ("things" : Str) = some (.ref L) := (lk_past (by decide +kernel)).trans lk_here
theorem cF_put1 (n m : Nat) (L : Addr) : putF "places" (.int (m : Nat)) (cF n L) = cF m L := put_here
theorem cF_put2 (n : Nat) (L M : Addr) : putF "things" (.ref M) (cF n L) = cF n M := (put_past (by decide +kernel)).trans (congrArg _ put_here)
theorem cF_new (n : Nat) (L : Addr) : putF "things" (.ref L) (putF "places" (.int (n : Nat)) []) = cF n L := (put_past (by decide +kernel)).trans rfl
theorem cF_no {n : Nat} {L : Addr} {m : Str} (h1 : (m == ("places" : Str)) = false) (h2 : (m == ("things" : Str)) = false) : (cF n L).lookup m = none := (lk_past h1).trans ((lk_past h2).trans rfl)
structure CupR (CT CC : Addr) (H : Hp) (a L : Addr) (c : Cupboard) (ps : Rows) : Prop where
  obj : ∃ dx, H a = some (.ins CC dx (cF c.places L))
  lst : H L = some (.lst (refs ps))
  all : AllAt CT H ps
  eq : vals ps = c.things
  few : ps.length ≤ 9
def CupAt (CT CC : Addr) (H : Hp) (a L : Addr) (c : Cupboard) : Prop := ∃ ps, CupR CT CC H a L c ps
theorem CupR.same {CT CC : Addr} {H H' : Hp} {a L : Addr} {c : Cupboard} {ps : Rows} (h : CupR CT CC H a L c ps) (s : Same H H') : CupR CT CC H' a L c ps :=
  let ⟨dx, e⟩ := h.obj
  ⟨⟨dx, s _ _ e⟩, s _ _ h.lst, h.all.same s, h.eq, h.few⟩
theorem CupR.count {CT CC : Addr} {H : Hp} {a L : Addr} {c : Cupboard} {ps : Rows} (h : CupR CT CC H a L c ps) : ps.length = c.count := by
  unfold Cupboard.count
  rw [← h.eq]
  exact (List.length_map _).symm

section
variable {P : Program} {w : World} {K : PySem.W.Frag} {mg : Str → Option Value} {base : Heap} {CT CC : Addr}
def rShr : R2 := fun x y H Q => ∃ (i : Int) (k : Nat), x = .int i ∧ y = .int (k : Int) ∧ Q (.int (i / 2 ^ k)) H
def rOdd : R2 := fun x y H Q => ∃ n : Nat, x = .int (n : Int) ∧ y = .int 1 ∧ Q (.int ((n % 2 : Nat) : Int)) H
theorem op_rShr {X : Cx} : OpR X (binaryOp .RShift) rShr := op_shrN
theorem op_rOdd {X : Cx} : OpR X (binaryOp .BitAnd) rOdd := op_odd

/-! ### things_of -/
def spOf (CT CC : Addr) : Sp := fun vs H Q _ => ∃ (a L : Addr) (c : Cupboard) (ps : Rows) (s : Nat), vs = [.ref a, .int (s : Nat)] ∧ CupR CT CC H a L c ps ∧
  ∀ (H' : Hp) (D : Addr), Same H H' → H D = none → H' D = some (.lst (refs (sel s ps))) → Q (.ref D) H'
theorem scOf : FnScope ["self", "chosen", "number", "thing"] ["self", "chosen"] (defScope sThingsOf) := ⟨rfl, rfl, rfl, by decide +kernel, rfl, by decide +kernel, by decide +kernel⟩
theorem ok_of {f : Addr} {fd : FuncData} (F : Fun K "things_of" "Cupboard.things_of" sThingsOf f fd) (T : Txt K mg CT CC) : FnOk P w K mg base CX0 1 f fd ["self", "chosen"] (spOf CT CC) := by
  refine F.ok scOf (fun vs H Q E h => ?_) (fun cdv A outer s H vs Q E hr h => ⟨_, pss_one (ps_ret
    (pe_lc (own := [("number", 2), ("thing", 3)]) (g := gTup K 2 (gCons (gName 2) (gCons (gName 3) gNil))) (tt := tTest (tOp rEq (tOp rOdd (tOp rShr (tVar 1) (tVar 2)) (tC (.int 1))) (tC (.int 1)))) (te := tVar 3) (by rfl) scOf.nd
      (pi_enum (by rfl) T.enumerate (pa_cons (pe_fld (pv 0) rfl) pa_nil)) (blkOk_by (own := [("number", 2), ("thing", 3)]) (N := ["self", "chosen", "number", "thing"]) (sc := defScope sThingsOf) (by decide +kernel))
      (fun _ _ _ _ _ => pg_tup rfl (pgs_cons (pg_name (i := 2) scOf.nd rfl (Or.inl rfl)) (pgs_cons (pg_name (i := 3) scOf.nd rfl (Or.inl rfl)) pgs_nil)))
      (fun _ _ _ _ _ => pts_one (pt_cmpR op_eq (pe_op op_rOdd (pe_op op_rShr (pv 1) (pv 2)) pe_int) pe_int (nomark _))) (fun _ _ _ _ _ => pv 3))), ?_⟩)
  · obtain ⟨a, L, c, ps, s, rfl, _⟩ := h
    rfl
  · obtain ⟨a, L, c, ps, s, rfl, hC, k⟩ := h
    obtain ⟨dx, ho⟩ := hC.obj
    have e9 : (refs ps).length = ps.length := List.length_map _
    refine ⟨_, rfl, a, CC, dx, _, _, rfl, ho, T.clC, T.nTh, cF_things _ _, L, refs ps, rfl, SqL.of hC.lst, fun D hD => ?_⟩
    refine lc_it (walk_enum (K := K) (a := L) (xs := refs ps)) (fun i H' => Same H H' ∧ H' D = some (.lst (refs (sel s (ps.take i))))) ⟨same_new hD, upd_same⟩ (fun i H' _ q => q.1.seq (SqL.of hC.lst)) ?_ ?_
    · rintro i x H' H2 hi ⟨sm, hd⟩ ⟨tu, u, v, rfl, nt, rfl, eu, ev⟩
      cases Option.some.inj eu
      obtain ⟨p, hp, rfl⟩ := refs_at ev
      have more := sel_more (s := s) hp
      have sm2 : Same H (upd H' tu (.tup [.int (i : Nat), .ref p.1])) := sm.trans (same_new nt)
      have hd2 : upd H' tu (.tup [.int (i : Nat), .ref p.1]) D = some (.lst (refs (sel s (ps.take i)))) := by
        rw [upd_ne (ne_of_none hd nt)]
        exact hd
      refine ⟨tu, _, rfl, SqT.of upd_same, rfl, _, _, rfl, _, _, rfl, rfl, rfl, ?_⟩
      refine ⟨_, rfl, _, rfl, (s : Int), i, rfl, rfl, s / 2 ^ i, ?_, rfl, rfl, _, rfl, ?_⟩
      · show V.int ((s : Int) / 2 ^ i) = V.int ((s / 2 ^ i : Nat) : Int)
        rw [Int.natCast_ediv, Int.natCast_pow]
        rfl
      have et : decide (V.int ((s / 2 ^ i % 2 : Nat) : Int) = V.int 1) = s.testBit i := by
        rw [Nat.testBit_eq_decide_div_mod_eq]
        by_cases z : s / 2 ^ i % 2 = 1
        · rw [z]
          rfl
        · rw [decide_eq_false z, decide_eq_false]
          intro q
          injection q with q
          omega
      rw [et]
      cases b : s.testBit i with
      | true =>
        refine if_true_of rfl ?_
        refine ⟨_, rfl, _, hd2, ?_, same_at hD sm2, ?_⟩
        · unfold refs
          rw [List.length_map]
          exact small1000 (Nat.le_trans (sel_len _ _) (Nat.le_trans (List.length_take_le' _ _) (by have := hC.few; omega)))
        · rw [upd_same, more, if_pos b]
          unfold refs
          rw [List.map_append]
          rfl
      | false =>
        refine if_false_of rfl ?_
        rw [more, if_neg (by rw [b]; exact Bool.false_ne_true), List.append_nil]
        exact ⟨sm2, hd2⟩
    · rintro H' ⟨sm, hd⟩
      rw [e9, List.take_length] at hd
      exact k H' D sm hD hd

/-! ### Cupboard.__init__ -/
def spCInit (CT CC : Addr) : Sp := fun vs H Q _ => ∃ (p dx : Addr), vs = [.ref p] ∧ H p = some (.ins CC dx []) ∧
  ∀ (H' : Hp) (L : Addr), CupAt CT CC H' p L Si89.init → H L = none → (∀ b o, H b = some o → b ≠ p → H' b = some o) → Q .non H'
theorem scCI : FnScope ["self"] ["self"] (defScope sCInit) := ⟨rfl, rfl, rfl, by decide +kernel, rfl, by decide +kernel, by decide +kernel⟩
theorem ok_cinit {f : Addr} {fd : FuncData} (F : Fun K "__init__" "Cupboard.__init__" sCInit f fd) (T : Txt K mg CT CC) : FnOk P w K mg base CX0 1 f fd ["self"] (spCInit CT CC) := by
  refine F.ok scCI (fun vs H Q E h => ?_) (fun cdv A outer s H vs Q E hr h => ⟨_, pss_cons (ps_fld (pv 0) pe_int rfl) (pss_one (ps_fld (pv 0) (pe_lst pa_nil) rfl)), ?_⟩)
  · obtain ⟨p, dx, rfl, _⟩ := h
    rfl
  · obtain ⟨p, dx, rfl, hp, k⟩ := h
    refine ⟨_, rfl, p, CC, dx, [], rfl, hp, T.clC, T.nPl, (by show 0 < 1000; decide), ?_⟩
    refine ⟨(by show 0 ≤ sizeLine; decide), fun L hL => ?_⟩
    have hL0 : H L = none := (fun z => by
      cases q : H L with
      | none => rfl
      | some o =>
        by_cases e : L = p
        · rw [e, upd_same] at hL
          cases hL
        · rw [upd_ne e, q] at hL
          cases hL) ()
    have hpL : p ≠ L := fun e => by
      rw [e, hL0] at hp
      cases hp
    refine ⟨_, rfl, p, CC, dx, _, rfl, (upd_ne hpL).trans upd_same, T.clC, T.nTh, (by show 1 < 1000; decide), ?_⟩
    refine k _ L ⟨[], ⟨dx, ?_⟩, ?_, (fun q hq => nomatch hq), rfl, by decide⟩ hL0 fun b o e hb => ?_
    · rw [upd_same]
      exact congrArg (fun q => some (HO.ins CC dx q)) (cF_new 1 L)
    · rw [upd_ne (Ne.symm hpL), upd_same]
      rfl
    · rw [upd_ne hb, upd_ne (ne_of_none e hL0), upd_ne hb]
      exact e
end
end Cup

namespace Cup
open PySem PySem.Spec PyProof.Rows L2
open Si89 (Thing Cupboard)

/-! ### pairs of whole numbers, the one greater than the other; and less -/
def rGt2 (K : PySem.W.Frag) : R2 := fun x y H Q => ∃ (a b : Addr) (i j m n : Int), x = .ref a ∧ y = .ref b ∧ SqT K H a [.int i, .int j] ∧ SqT K H b [.int m, .int n] ∧
  Q (.bl (decide (m < i ∨ (i = m ∧ n < j)))) H
theorem two_ints {i j : Int} {its : List Value} (r : Vals [.int i, .int j] its) : ∃ t u, its = [.int i t, .int j u] := by
  cases r with
  | cons h1 r1 =>
    cases r1 with
    | cons h2 r2 =>
      cases r2
      obtain ⟨t, rfl⟩ := h1
      obtain ⟨u, rfl⟩ := h2
      exact ⟨t, u, rfl⟩
theorem op_gt2 {X : Cx} (hu : X.A.units < cLine) : OpR X (compareOp .Gt) (rGt2 X.K) := by
  intro pins s σ H x y v u Q I rx ry h
  obtain ⟨a, b, i, j, m, n, rfl, rfl, ha, hb, q⟩ := h
  cases rx
  cases ry
  obtain ⟨its, r1, p1, _⟩ := I.tuple ha
  obtain ⟨its2, r2, p2, _⟩ := I.tuple hb
  obtain ⟨t1, t2, rfl⟩ := two_ints r1
  obtain ⟨u1, u2, rfl⟩ := two_ints r2
  have G := Ob.RcOp.tuples_gt (A := X.A) (s := s) (e := fun k => if k = 0 then (i == m) else (j == n)) (r := fun k => if k = 0 then decide (m < i) else decide (n < j)) p1 p2 hu
    (fun k h1 h2 => by
      match k, h1, h2 with
      | 0, _, _ => exact SeqAt.EqAt.int_int _ _ _ _
      | 1, _, _ => exact SeqAt.EqAt.int_int _ _ _ _
      | k + 2, h1, _ => exact absurd h1 (by simp))
    (fun k h1 h2 _ => by
      match k, h1, h2 with
      | 0, _, _ => exact Ob.RcOp.gt_int _ _ _ _
      | 1, _, _ => exact Ob.RcOp.gt_int _ _ _ _
      | k + 2, h1, _ => exact absurd h1 (by simp))
  have e : Ob.lexAt (fun k => if k = 0 then (i == m) else (j == n)) (fun k => if k = 0 then decide (m < i) else decide (n < j)) (decide (([Value.int i t1, Value.int j t2] : List Value).toArray.size > ([Value.int m u1, Value.int n u2] : List Value).toArray.size)) 0
      (min ([Value.int i t1, Value.int j t2] : List Value).toArray.size ([Value.int m u1, Value.int n u2] : List Value).toArray.size) = decide (m < i ∨ (i = m ∧ n < j)) := by
    show (if (i == m) = true then (if (j == n) = true then false else decide (n < j)) else decide (m < i)) = _
    by_cases h1 : i = m
    · subst h1
      rw [if_pos (beq_self_eq_true i)]
      by_cases h2 : j = n
      · subst h2
        rw [if_pos (beq_self_eq_true j)]
        symm
        rw [decide_eq_false_iff_not]
        omega
      · rw [if_neg (by simpa using h2)]
        by_cases h3 : n < j
        · rw [decide_eq_true h3, decide_eq_true]
          exact .inr ⟨rfl, h3⟩
        · rw [decide_eq_false h3, decide_eq_false]
          omega
    · rw [if_neg (by simpa using h1)]
      by_cases h3 : m < i
      · rw [decide_eq_true h3, decide_eq_true]
        exact .inl h3
      · rw [decide_eq_false h3, decide_eq_false]
        omega
  rw [e] at G
  exact G X.prog X.w X.xe (EP X pins σ Q) ⟨.bl _, H, I, rfl, q⟩
end Cup

namespace Cup
open PySem PySem.Spec PyProof.Rows L2
open Si89 (Thing Cupboard)

/-- how a call ends: the cupboard as the specification says, a new list of what is answered, all else as it was -/
def Ends (CT CC : Addr) (H : Hp) (a L : Addr) (c : Cupboard) (q : Si89.Call) (Q : VK) : Prop := ∀ (H' : Hp) (p L' : Addr), CupAt CT CC H' a L' (Si89.step c q).1 → (L' = L ∨ H L' = none) → H p = none → p ≠ L' →
  (∀ b o, H b = some o → b ≠ a → b ≠ L → H' b = some o) → H' p = some (.lst ((ansL (Si89.step c q).2).map V.int)) → Q (.ref p) H'
/-- a call that leaves the cupboard as it is -/
theorem Ends.stay {CT CC : Addr} {H : Hp} {a L : Addr} {c : Cupboard} {q : Si89.Call} {Q : VK} {ps : Rows} (k : Ends CT CC H a L c q Q) (hC : CupR CT CC H a L c ps) {H1 : Hp} (sm : Same H H1) {p : Addr} (hp : H1 p = none) {l : List V} {r : Si89.Ans} (e : Si89.step c q = (c, r))
    (el : l = (ansL r).map V.int) : Q (.ref p) (upd H1 p (.lst l)) := by
  have s2 : Same H (upd H1 p (.lst l)) := sm.trans (same_new hp)
  refine k _ p L ?_ (.inl rfl) (sm.free hp) (fun z => ?_) (fun b o hb _ _ => s2 _ _ hb) ?_
  · rw [e]
    exact ⟨ps, hC.same s2⟩
  · have h1 := sm _ _ hC.lst
    rw [z] at hp
    rw [hp] at h1
    cases h1
  · rw [upd_same, e, el]

section
variable {P : Program} {w : World} {K : PySem.W.Frag} {mg : Str → Option Value} {base : Heap} {CT CC : Addr}

/-! ### begins -/
def spBegins (CT CC : Addr) : Sp := fun vs H Q _ => ∃ (a L : Addr) (c : Cupboard) (n : Nat), vs = [.ref a, .int (n : Nat)] ∧ CupAt CT CC H a L c ∧ Ends CT CC H a L c (.begins n) Q
theorem scBg : FnScope ["self", "places"] ["self", "places"] (defScope sBegins) := ⟨rfl, rfl, rfl, by decide +kernel, rfl, by decide +kernel, by decide +kernel⟩
theorem ok_begins {f : Addr} {fd : FuncData} (F : Fun K "begins" "Cupboard.begins" sBegins f fd) (T : Txt K mg CT CC) : FnOk P w K mg base CX0 1 f fd ["self", "places"] (spBegins CT CC) := by
  obtain ⟨tm, gm⟩ := T.mp
  refine F.ok scBg (fun vs H Q E h => ?_) (fun cdv A outer s H vs Q E hr h => ⟨_, pss_cons (ps_if (PW.pt (pw_or (pt_cmpR op_lt (pv 1) pe_int (nomark _)) (pw_or1 (pt_cmpR op_gt (pv 1) (pe_glob (v := .int 5) rfl gm ⟨_, rfl⟩) (nomark _)))))
      (pss_one (ps_ret (pe_lst (pa_cons (pe_un un_neg pe_int) pa_nil)))) pss_nil)
    (pss_cons (ps_fld (pv 0) (pv 1) rfl) (pss_cons (ps_fld (pv 0) (pe_lst pa_nil) rfl) (pss_one (ps_ret (pe_lst (pa_cons pe_int pa_nil)))))), ?_⟩)
  · obtain ⟨a, L, c, n, rfl, _⟩ := h
    rfl
  · obtain ⟨a, L, c, n, rfl, ⟨ps, hC⟩, k⟩ := h
    have bad : (n < 1 ∨ 5 < n) → ∀ p, H p = none → Q (.ref p) (upd H p (.lst [.int (-1)])) := fun z p hp =>
      k.stay hC (Same.refl H) hp (r := Si89.ok (-1)) (if_pos z) rfl
    refine ⟨_, rfl, _, _, rfl, rfl, _, rfl, ?_⟩
    by_cases c1 : n < 1
    · refine if_true_of (decide_eq_true (Int.ofNat_lt.mpr c1)) ?_
      refine if_true_of rfl ?_
      exact ⟨_, rfl, (by show 1 ≤ sizeLine; decide), bad (.inl c1)⟩
    · refine if_false_of (decide_eq_false (fun z => c1 (Int.ofNat_lt.mp z))) ?_
      refine ⟨_, rfl, _, _, rfl, rfl, _, rfl, ?_⟩
      by_cases c2 : 5 < n
      · refine if_true_of (decide_eq_true (Int.ofNat_lt.mpr c2)) ?_
        exact ⟨_, rfl, (by show 1 ≤ sizeLine; decide), bad (.inr c2)⟩
      · refine if_false_of (decide_eq_false (fun z => c2 (Int.ofNat_lt.mp z))) ?_
        obtain ⟨dx, ho⟩ := hC.obj
        refine ⟨_, rfl, _, rfl, a, CC, dx, _, rfl, ho, T.clC, T.nPl, (by show 2 < 1000; decide), ?_⟩
        rw [cF_put1]
        refine ⟨(by show 0 ≤ sizeLine; decide), fun M hM => ?_⟩
        have hMa : M ≠ a := fun e => by
          rw [e, upd_same] at hM
          cases hM
        have hM0 : H M = none := by
          rw [upd_ne hMa] at hM
          exact hM
        refine ⟨_, rfl, a, CC, dx, _, rfl, (upd_ne (Ne.symm hMa)).trans upd_same, T.clC, T.nTh, (by show 2 < 1000; decide), ?_⟩
        rw [cF_put2]
        refine ⟨(by show 1 ≤ sizeLine; decide), fun p hp => ?_⟩
        have hpa : p ≠ a := fun e => by
          rw [e, upd_same] at hp
          cases hp
        have hpM : p ≠ M := fun e => by
          rw [e, upd_ne hMa, upd_same] at hp
          cases hp
        have hp0 : H p = none := by
          rw [upd_ne hpa, upd_ne hpM, upd_ne hpa] at hp
          exact hp
        have e : Si89.step c (.begins n) = (⟨n, []⟩, Si89.ok 0) := if_neg (show ¬ (n < 1 ∨ 5 < n) by omega)
        refine k _ p M ?_ (.inr hM0) hp0 hpM (fun b o hb h1 h2 => ?_) ?_
        · rw [e]
          refine ⟨[], ⟨dx, ?_⟩, ?_, (fun q hq => nomatch hq), rfl, by decide⟩
          · rw [upd_ne (Ne.symm hpa), upd_same]
          · rw [upd_ne (Ne.symm hpM), upd_ne hMa, upd_same]
            rfl
        · rw [upd_ne (ne_of_none hb hp0), upd_ne h1, upd_ne (ne_of_none hb hM0), upd_ne h1]
          exact hb
        · rw [upd_same, e]
          rfl

/-! ### thing -/
def spThing (CT CC : Addr) : Sp := fun vs H Q _ => ∃ (a L : Addr) (c : Cupboard) (t : Thing), vs = [.ref a, .int (t.comes : Nat), .int (t.asked : Nat), .int (t.worth : Nat)] ∧ CupAt CT CC H a L c ∧ Ends CT CC H a L c (.thing t) Q
theorem scTh : FnScope ["self", "comes", "asked_for", "worth"] ["self", "comes", "asked_for", "worth"] (defScope sThing) := ⟨rfl, rfl, rfl, by decide +kernel, rfl, by decide +kernel, by decide +kernel⟩
theorem ok_thing {f fI : Addr} {fd fdI : FuncData} (F : Fun K "thing" "Cupboard.thing" sThing f fd) (T : Txt K mg CT CC) (M : Mk K CT fI) (FI : Fun K "__init__" "Thing.__init__" sTInit fI fdI)
    (bI : Binds K fdI ["self", "comes", "asked_for", "worth"] []) : FnOk P w K mg base CX0 3 f fd ["self", "comes", "asked_for", "worth"] (spThing CT CC) := by
  have GI : FnOk P w K mg base CX0 1 fI fdI ["self", "comes", "asked_for", "worth"] (spTInit CT) := ok_tinit FI T
  obtain ⟨tm, gm⟩ := T.mt
  obtain ⟨tl, gl⟩ := T.ld
  obtain ⟨tw, gw⟩ := T.mw
  refine F.ok scTh (fun vs H Q E h => ?_) (fun cdv A outer s H vs Q E hr h => ⟨_, pss_cons (ps_if (PW.pt (pw_or (pt_cmpR op_le (pv 2) (pv 1) (nomark _)) (pw_or (pt_cmpR op_gt (pv 2) (pe_glob (v := .int 365) rfl gl ⟨_, rfl⟩) (nomark _)) (pw_or1 (pt_cmpR op_gt (pv 3) (pe_glob (v := .int 1000) rfl gw ⟨_, rfl⟩) (nomark _))))))
      (pss_one (ps_ret (pe_lst (pa_cons (pe_un un_neg pe_int) pa_nil)))) pss_nil)
    (pss_cons (ps_if (pt_cmpR op_eq (pe_callB call_len_seq (by rfl) T.len PySem.boot_len (pa_cons (pe_fld (pv 0) rfl) pa_nil)) (pe_glob (v := .int 9) rfl gm ⟨_, rfl⟩) (nomark _))
      (pss_one (ps_ret (pe_lst (pa_cons (pe_un un_neg pe_int) pa_nil)))) pss_nil)
    (pss_cons (ps_expr (pe_bm PySem.F.plainAttrs_list PySem.F.slot_list_append PySem.F.type_list_append mt_append (pe_fld (pv 0) rfl)
        (pa_cons (pe_make M GI hr (by rfl) T.gT bI .nil pass0 (pa_cons (pv 1) (pa_cons (pv 2) (pa_cons (pv 3) pa_nil)))) pa_nil)))
    (pss_one (ps_ret (pe_lst (pa_cons (pe_op op_sub (pe_callB call_len_seq (by rfl) T.len PySem.boot_len (pa_cons (pe_fld (pv 0) rfl) pa_nil)) pe_int) pa_nil)))))), ?_⟩)
  · obtain ⟨a, L, c, t, rfl, _⟩ := h
    rfl
  · obtain ⟨a, L, c, t, rfl, ⟨ps, hC⟩, k⟩ := h
    obtain ⟨dx, ho⟩ := hC.obj
    have hlen : (refs ps).length = c.count := (List.length_map _).trans hC.count
    have bad : (t.asked ≤ t.comes ∨ 365 < t.asked ∨ 1000 < t.worth) → ∀ p, H p = none → Q (.ref p) (upd H p (.lst [.int (-1)])) := fun z p hp =>
      k.stay hC (Same.refl H) hp (r := Si89.ok (-1)) (if_pos z) rfl
    have one : ([V.int (-1)] : List V).length ≤ sizeLine := by show 1 ≤ sizeLine; decide
    refine ⟨_, rfl, _, rfl, _, _, rfl, rfl, _, rfl, ?_⟩
    by_cases c1 : t.asked ≤ t.comes
    · refine if_true_of (decide_eq_true (Int.ofNat_le.mpr c1)) ?_
      refine if_true_of rfl ?_
      exact ⟨_, rfl, one, bad (.inl c1)⟩
    refine if_false_of (decide_eq_false (fun z => c1 (Int.ofNat_le.mp z))) ?_
    refine ⟨_, rfl, _, _, rfl, rfl, _, rfl, ?_⟩
    by_cases c2 : 365 < t.asked
    · refine if_true_of (decide_eq_true (Int.ofNat_lt.mpr c2)) ?_
      refine if_true_of rfl ?_
      exact ⟨_, rfl, one, bad (.inr (.inl c2))⟩
    refine if_false_of (decide_eq_false (fun z => c2 (Int.ofNat_lt.mp z))) ?_
    refine ⟨_, rfl, _, _, rfl, rfl, _, rfl, ?_⟩
    by_cases c3 : 1000 < t.worth
    · refine if_true_of (decide_eq_true (Int.ofNat_lt.mpr c3)) ?_
      exact ⟨_, rfl, one, bad (.inr (.inr c3))⟩
    refine if_false_of (decide_eq_false (fun z => c3 (Int.ofNat_lt.mp z))) ?_
    have good : ¬ (t.asked ≤ t.comes ∨ 365 < t.asked ∨ 1000 < t.worth) := by omega
    refine ⟨_, rfl, a, CC, dx, _, _, rfl, ho, T.clC, T.nTh, cF_things _ _, L, refs ps, rfl, .inl (SqL.of hC.lst), rfl, _, rfl, ?_⟩
    have e9 : decide (V.int ((refs ps).length : Int) = V.int 9) = decide (9 ≤ c.count) := by
      rw [hlen]
      have := hC.few
      rw [hC.count] at this
      by_cases z : c.count = 9
      · rw [z]
        rfl
      · rw [decide_eq_false, decide_eq_false]
        · omega
        · intro q
          injection q with q
          omega
    rw [e9]
    by_cases c4 : 9 ≤ c.count
    · refine if_true_of (decide_eq_true c4) ?_
      refine ⟨_, rfl, (by show 1 ≤ sizeLine; decide), fun p hp => ?_⟩
      exact k.stay hC (Same.refl H) hp (r := Si89.ok (-5)) ((if_neg good).trans (if_pos c4)) rfl
    refine if_false_of (decide_eq_false c4) ?_
    refine ⟨_, rfl, a, CC, dx, _, _, rfl, ho, T.clC, T.nTh, cF_things _ _, .inl ⟨rfl, _, SqL.of hC.lst⟩, _, rfl, _, rfl, _, rfl, fun x dxx nx nd ne => ?_⟩
    refine ⟨x, dxx, t, rfl, upd_same, fun H1 hx kp => ⟨rfl, ?_⟩⟩
    have sm : Same H H1 := Same.made nx nd kp
    have hL1 := sm _ _ hC.lst
    have hLx : L ≠ x := ne_of_none hC.lst nx
    refine ⟨L, refs ps, .ref x, rfl, rfl, hL1, ?_, ?_⟩
    · rw [hlen]
      exact small1000 (by omega)
    have ho1 := sm _ _ ho
    have hLa : a ≠ L := fun e => by
      rw [e, hC.lst] at ho
      cases ho
    have e8 : refs ps ++ [V.ref x] = refs (ps ++ [(x, t)]) := by
      unfold refs
      rw [List.map_append]
      rfl
    rw [e8]
    have l8 : (refs (ps ++ [(x, t)])).length = c.count + 1 := by
      unfold refs
      rw [List.length_map, List.length_append, hC.count]
      rfl
    refine ⟨_, rfl, a, CC, dx, _, _, rfl, (upd_ne hLa).trans ho1, T.clC, T.nTh, cF_things _ _, L, refs (ps ++ [(x, t)]), rfl, .inl (SqL.of upd_same), _, _, rfl, rfl, (by show 1 ≤ sizeLine; decide), fun p hp => ?_⟩
    have hpL : p ≠ L := fun e => by
      rw [e, upd_same] at hp
      cases hp
    have hp1 : H1 p = none := by
      rw [upd_ne hpL] at hp
      exact hp
    have e : Si89.step c (.thing t) = ({ c with things := c.things ++ [t] }, Si89.ok ((c.count : Nat) : Int)) := (if_neg good).trans (if_neg c4)
    refine k _ p L ?_ (.inl rfl) (sm.free hp1) hpL (fun b o hb h1 h2 => ?_) ?_
    · rw [e]
      have all1 : AllAt CT H1 ps := hC.all.same sm
      refine ⟨ps ++ [(x, t)], ⟨dx, ?_⟩, ?_, fun q hq => ?_, ?_, ?_⟩
      · rw [upd_ne (ne_of_none ho1 hp1), upd_ne hLa]
        exact ho1
      · rw [upd_ne (ne_of_none hL1 hp1), upd_same]
      · have h3 : ThingAt CT H1 q.1 q.2 := by
          rcases List.mem_append.mp hq with z | z
          · exact all1 q z
          · rcases List.mem_singleton.mp z with rfl
            exact hx
        obtain ⟨d3, e3⟩ := h3
        refine ⟨d3, ?_⟩
        have : q.1 ≠ L := fun z => by
          rw [z, hL1] at e3
          cases e3
        rw [upd_ne (ne_of_none e3 hp1), upd_ne this]
        exact e3
      · show vals (ps ++ [(x, t)]) = c.things ++ [t]
        rw [← hC.eq]
        unfold vals
        rw [List.map_append]
        rfl
      · rw [List.length_append, hC.count]
        show c.count + 1 ≤ 9
        omega
    · have hb1 := sm _ _ hb
      rw [upd_ne (ne_of_none hb1 hp1), upd_ne h2]
      exact hb1
    · rw [upd_same, e, l8]
      show some (HO.lst [V.int ((c.count + 1 : Nat) - 1)]) = some (HO.lst [V.int (c.count : Nat)])
      have : (((c.count + 1 : Nat) : Int) - 1) = ((c.count : Nat) : Int) := by omega
      rw [this]
end
end Cup

namespace Cup
open PySem PySem.Spec PyProof.Rows L2
open Si89 (Thing Cupboard)
section
variable {P : Program} {w : World} {K : PySem.W.Frag} {mg : Str → Option Value} {base : Heap} {CT CC : Addr}

/-- the defs that the calls call, where they stand -/
structure Help (K : PySem.W.Frag) (mg : Str → Option Value) (CT CC : Addr) (fP fT fF fW fO : Addr) (dP dT dF dW dO : FuncData) : Prop where
  MP : PlaceM K CT fP dP
  FT : Fun K "places_taken" "places_taken" sTaken fT dT
  bT : Binds K dT ["things", "day"] []
  mT : mg "places_taken" = some (.ref fT)
  FF : Fun K "first_overfull_day" "first_overfull_day" sFirst fF dF
  bF : Binds K dF ["things", "places"] []
  mF : mg "first_overfull_day" = some (.ref fF)
  FW : Fun K "worth_together" "worth_together" sWorth fW dW
  bW : Binds K dW ["things"] []
  mW : mg "worth_together" = some (.ref fW)
  FO : Fun K "things_of" "Cupboard.things_of" sThingsOf fO dO
  bO : Binds K dO ["self", "chosen"] []
  mO : Meth K CC "things_of" fO

theorem shr_zero (s k : Nat) : ((s : Int) / 2 ^ k = 0) ↔ s < 2 ^ k := by
  have e : (s : Int) / 2 ^ k = ((s / 2 ^ k : Nat) : Int) := by
    rw [Int.natCast_ediv, Int.natCast_pow]
    rfl
  rw [e]
  have hp : 0 < 2 ^ k := Nat.pow_pos (by omega)
  constructor
  · intro h
    have h1 : s / 2 ^ k = 0 := by omega
    rcases (Nat.div_eq_zero_iff).mp h1 with z | z
    · omega
    · exact z
  · intro h
    rw [Nat.div_eq_of_lt h]
    rfl

/-! ### check -/
def spCheck (CT CC : Addr) : Sp := fun vs H Q _ => ∃ (a L : Addr) (c : Cupboard) (n : Nat), vs = [.ref a, .int (n : Nat)] ∧ CupAt CT CC H a L c ∧ Ends CT CC H a L c (.check n) Q
theorem scCk : FnScope ["self", "chosen", "things", "day"] ["self", "chosen"] (defScope sCheck) := ⟨rfl, rfl, rfl, by decide +kernel, rfl, by decide +kernel, by decide +kernel⟩
theorem ok_check {f fP fT fF fW fO : Addr} {fd dP dT dF dW dO : FuncData} (F : Fun K "check" "Cupboard.check" sCheck f fd) (T : Txt K mg CT CC) (G : Help K mg CT CC fP fT fF fW fO dP dT dF dW dO) : FnOk P w K mg base CX0 4 f fd ["self", "chosen"] (spCheck CT CC) := by
  have GT : FnOk P w K mg base CX0 2 fT dT ["things", "day"] (spTaken K CT) := ok_taken G.FT T G.MP
  have GF : FnOk P w K mg base CX0 3 fF dF ["things", "places"] (spFirst K CT) := ok_first G.MP G.FF T G.FT G.bT G.mT
  have GW : FnOk P w K mg base CX0 1 fW dW ["things"] (spWorth K CT) := ok_worth G.FW T
  have GO : FnOk P w K mg base CX0 1 fO dO ["self", "chosen"] (spOf CT CC) := ok_of G.FO T
  refine F.ok scCk (fun vs H Q E h => ?_) (fun cdv A outer s H vs Q E hr h => ⟨_,
    have hr1 : Room 1 _ := hr.mono (by decide)
    have hr2 : Room 2 _ := hr.mono (by decide)
    pss_cons (ps_if (pt_cmpR op_ne (pe_op op_rShr (pv 1) (pe_callB call_len_seq (by rfl) T.len PySem.boot_len (pa_cons (pe_fld (pv 0) rfl) pa_nil))) pe_int (nomark _))
      (pss_one (ps_ret (pe_lst (pa_cons (pe_un un_neg pe_int) pa_nil)))) pss_nil)
    (pss_cons (ps_set (i := 2) scCk.nd rfl (Or.inl rfl) (pe_meth (pv 0) T.clC G.mO GO hr1 G.bO .nil pass0 (pa_cons (pv 1) pa_nil)))
    (pss_cons (ps_set (i := 3) scCk.nd rfl (Or.inl rfl) (pe_call GF hr (by rfl) G.mF G.FF.kp G.bF .nil pass0 (pa_cons (pv 2) (pa_cons (pe_fld (pv 0) rfl) pa_nil))))
    (pss_cons (ps_if (pt_cmpR op_notN (pv 3) pe_non (nomark _))
      (pss_one (ps_ret (pe_lst (pa_cons (pe_un un_neg pe_int) (pa_cons (pv 3) (pa_cons (pe_call GT hr2 (by rfl) G.mT G.FT.kp G.bT .nil pass0 (pa_cons (pv 2) (pa_cons (pv 3) pa_nil))) pa_nil)))))) pss_nil)
    (pss_one (ps_ret (pe_lst (pa_cons (pe_call GW hr1 (by rfl) G.mW G.FW.kp G.bW .nil pass0 (pa_cons (pv 2) pa_nil)) (pa_cons (pe_callB call_len_seq (by rfl) T.len PySem.boot_len (pa_cons (pv 2) pa_nil)) pa_nil)))))))), ?_⟩)
  · obtain ⟨a, L, c, n, rfl, _⟩ := h
    rfl
  · obtain ⟨a, L, c, n, rfl, ⟨ps, hC⟩, k⟩ := h
    obtain ⟨dx, ho⟩ := hC.obj
    have hlen : (refs ps).length = c.count := (List.length_map _).trans hC.count
    refine ⟨_, rfl, _, rfl, a, CC, dx, _, _, rfl, ho, T.clC, T.nTh, cF_things _ _, L, refs ps, rfl, .inl (SqL.of hC.lst), (n : Int), (refs ps).length, rfl, rfl, rfl, _, rfl, ?_⟩
    rw [hlen]
    have e1 : (!decide (V.int ((n : Int) / 2 ^ c.count) = V.int 0)) = decide (2 ^ c.count ≤ n) := by
      have := shr_zero n c.count
      by_cases z : n < 2 ^ c.count
      · rw [this.mpr z, decide_eq_false (show ¬ 2 ^ c.count ≤ n by omega)]
        rfl
      · rw [decide_eq_true (show 2 ^ c.count ≤ n by omega), decide_eq_false]
        · rfl
        · intro q
          injection q with q
          exact z (this.mp q)
    rw [e1]
    by_cases c1 : 2 ^ c.count ≤ n
    · refine if_true_of (decide_eq_true c1) ?_
      refine ⟨_, rfl, (by show 1 ≤ sizeLine; decide), fun p hp => ?_⟩
      exact k.stay hC (Same.refl H) hp (r := Si89.ok (-1)) (if_pos c1) rfl
    refine if_false_of (decide_eq_false c1) ?_
    refine ⟨_, rfl, a, dx, _, rfl, ho, cF_no (by decide +kernel) (by decide +kernel), _, rfl, a, L, c, ps, n, rfl, hC, fun H1 D sm1 _ hD => ?_⟩
    have hC1 := hC.same sm1
    obtain ⟨dx1, ho1⟩ := hC1.obj
    have hA1 : AllAt CT H1 (sel n ps) := fun q hq => hC1.all q (sel_sub hq)
    have few : (sel n ps).length ≤ 9 := Nat.le_trans (sel_len _ _) hC.few
    have hv : vals (sel n ps) = pick c n := sel_pick hC.eq n
    refine ⟨_, rfl, _, rfl, a, CC, dx1, _, _, rfl, ho1, T.clC, T.nPl, cF_places _ _, D, sel n ps, c.places, rfl, SqL.of hD, hA1, few, fun H2 days sm2 pd rd => ?_⟩
    rw [hv] at pd ⊢
    rw [first_full c n pd rd]
    have sm12 := sm1.trans sm2
    cases ef : c.full n with
    | some d =>
      refine ⟨_, rfl, rfl, _, rfl, ?_⟩
      refine if_true_of rfl ?_
      refine ⟨_, rfl, _, rfl, _, rfl, _, rfl, D, sel n ps, d, rfl, SqL.of (sm2 _ _ hD), hA1.same sm2, by omega, fun H3 sm3 => ?_⟩
      refine ⟨(by show 3 ≤ sizeLine; decide), fun p hp => ?_⟩
      rw [hv, taken_pick]
      refine k.stay hC (sm12.trans sm3) hp (r := ⟨-6, Si89.ints [d, c.taken n d]⟩) ?_ rfl
      show (if 2 ^ c.count ≤ n then _ else (c, (match c.full n with | some d => (⟨-6, Si89.ints [d, c.taken n d]⟩ : Si89.Ans) | none => ⟨((c.worth n : Nat) : Int), Si89.ints [c.size n]⟩))) = _
      rw [if_neg c1, ef]
    | none =>
      refine ⟨_, rfl, rfl, _, rfl, ?_⟩
      refine if_false_of rfl ?_
      refine ⟨_, rfl, D, sel n ps, rfl, SqL.of (sm2 _ _ hD), hA1.same sm2, few, fun H3 sm3 => ?_⟩
      refine ⟨_, rfl, D, refs (sel n ps), rfl, .inl (SqL.of (sm3 _ _ (sm2 _ _ hD))), (by show 2 ≤ sizeLine; decide), fun p hp => ?_⟩
      have el : (refs (sel n ps)).length = c.size n := by
        rw [← size_pick, ← hv]
        unfold refs vals
        rw [List.length_map, List.length_map]
      rw [hv, worth_pick, el]
      refine k.stay hC (sm12.trans sm3) hp (r := ⟨((c.worth n : Nat) : Int), Si89.ints [c.size n]⟩) ?_ rfl
      show (if 2 ^ c.count ≤ n then _ else (c, (match c.full n with | some d => (⟨-6, Si89.ints [d, c.taken n d]⟩ : Si89.Ans) | none => ⟨((c.worth n : Nat) : Int), Si89.ints [c.size n]⟩))) = _
      rw [if_neg c1, ef]
end
end Cup

namespace Cup
open PySem PySem.Spec PyProof.Rows L2
open Si89 (Thing Cupboard)
section
variable {P : Program} {w : World} {K : PySem.W.Frag} {mg : Str → Option Value} {base : Heap} {CT CC : Addr}

theorem less_more (a b c d : Nat) : HT.lexLt [(a : Int), (b : Int)] [(c : Int), (d : Int)] = Si89.more c d a b := by
  show (if (a : Int) = c then (if (b : Int) = d then false else decide ((b : Int) < d)) else decide ((a : Int) < c)) = _
  rw [Bool.eq_iff_iff, more_iff]
  by_cases h1 : (a : Int) = c
  · rw [if_pos h1]
    by_cases h2 : (b : Int) = d
    · rw [if_pos h2]
      constructor
      · intro z; cases z
      · intro z; omega
    · rw [if_neg h2, decide_eq_true_eq]
      omega
  · rw [if_neg h1, decide_eq_true_eq]
    omega
theorem great_more (a b c d : Nat) : decide ((c : Int) < a ∨ ((a : Int) = c ∧ (d : Int) < b)) = Si89.more a b c d := by
  rw [Bool.eq_iff_iff, more_iff, decide_eq_true_eq]
  omega
theorem shl_one (k : Nat) : (1 : Int) * 2 ^ k = ((2 ^ k : Nat) : Int) := by
  rw [Int.one_mul, Int.natCast_pow]
  rfl

/-! ### foremost -/
abbrev walkOf (c : Cupboard) (f1 g1 : List Thing → Nat) (i : Nat) : Walk := Walk.run c (fun s => f1 (pick c s)) (fun s => g1 (pick c s)) i
def spFore (K : PySem.W.Frag) (CT CC g : Addr) (f1 g1 : List Thing → Nat) : Sp := fun vs H Q _ => ∃ (a L : Addr) (c : Cupboard), vs = [.ref a, .ref g] ∧ CupAt CT CC H a L c ∧
  ∀ (H1 : Hp) (p : Addr), Same H H1 → H1 p = none → Q (.ref p) (upd H1 p (.lst [.int ((walkOf c f1 g1 (2 ^ c.count)).first : Nat), .int ((walkOf c f1 g1 (2 ^ c.count)).second : Nat), .int ((walkOf c f1 g1 (2 ^ c.count)).many : Nat), .int ((walkOf c f1 g1 (2 ^ c.count)).set_ : Nat)]))
theorem scFr : FnScope ["self", "rank_of", "foremost_rank", "foremost_set", "as_good", "chosen", "things", "rank"] ["self", "rank_of"] (defScope sFore) := ⟨rfl, rfl, rfl, by decide +kernel, rfl, by decide +kernel, by decide +kernel⟩
theorem ok_fore {f g fP fT fF fW fO : Addr} {fd dg dP dT dF dW dO : FuncData} {f1 g1 : List Thing → Nat} (F : Fun K "foremost" "Cupboard.foremost" sFore f fd) (T : Txt K mg CT CC) (G : Help K mg CT CC fP fT fF fW fO dP dT dF dW dO)
    (GR : FnOk P w K mg base CX0 2 g dg ["things"] (spRank K CT f1 g1)) (kg : PySem.W.keepIn K (.ref g) = true) (bg : Binds K dg ["things"] []) : FnOk P w K mg base CX0 4 f fd ["self", "rank_of"] (spFore K CT CC g f1 g1) := by
  have GF : FnOk P w K mg base CX0 3 fF dF ["things", "places"] (spFirst K CT) := ok_first G.MP G.FF T G.FT G.bT G.mT
  have GO : FnOk P w K mg base CX0 1 fO dO ["self", "chosen"] (spOf CT CC) := ok_of G.FO T
  refine F.ok scFr (fun vs H Q E h => ?_) (fun cdv A outer s H vs Q E hr h => ⟨_,
    have hr1 : Room 1 _ := hr.mono (by decide)
    have hr2 : Room 2 _ := hr.mono (by decide)
    pss_cons (ps_set (i := 2) scFr.nd rfl (Or.inl rfl) (pe_tup (pa_cons pe_int (pa_cons pe_int pa_nil))))
    (pss_cons (ps_set (i := 3) scFr.nd rfl (Or.inl rfl) pe_int)
    (pss_cons (ps_set (i := 4) scFr.nd rfl (Or.inl rfl) pe_int)
    (pss_cons (ps_for PassesOwn.never rfl (pi_range1 rfl T.range (pa_cons (pe_op op_shl pe_int (pe_callB call_len_seq (by rfl) T.len PySem.boot_len (pa_cons (pe_fld (pv 0) rfl) pa_nil))) pa_nil)) (pg_name (i := 5) scFr.nd rfl (Or.inl rfl))
      (pss_cons (ps_set (i := 6) scFr.nd rfl (Or.inl rfl) (pe_meth (pv 0) T.clC G.mO GO hr1 G.bO .nil pass0 (pa_cons (pv 5) pa_nil)))
      (pss_cons (ps_set (i := 7) scFr.nd rfl (Or.inl rfl) (pe_callL (i := 1) GR hr2 rfl (Or.inl rfl) kg bg .nil pass0 (pa_cons (pv 6) pa_nil)))
      (pss_cons (ps_if (PW.pt (pw_or (pt_cmpR (op_ltT hr.units0) (pv 7) (pv 2) (nomark _)) (pw_or1 (pt_cmpR op_notN (pe_call GF hr (by rfl) G.mF G.FF.kp G.bF .nil pass0 (pa_cons (pv 6) (pa_cons (pe_fld (pv 0) rfl) pa_nil))) pe_non (nomark _)))))
        (pss_one ps_continue) pss_nil)
      (pss_cons (ps_if (pt_cmpR (op_gt2 hr.units0) (pv 7) (pv 2) (nomark _))
        (pss_cons (ps_set (i := 2) scFr.nd rfl (Or.inl rfl) (pv 7)) (pss_cons (ps_set (i := 3) scFr.nd rfl (Or.inl rfl) (pv 5)) (pss_one (ps_set (i := 4) scFr.nd rfl (Or.inl rfl) pe_int)))) pss_nil)
      (pss_one (ps_aug (i := 4) scFr.nd rfl (Or.inl rfl) pe_int ip_add)))))))
    (pss_one (ps_ret (pe_lst (pa_cons (pe_ix ix_tup (pv 2) pe_int (fun _ _ => rfl)) (pa_cons (pe_ix ix_tup (pv 2) pe_int (fun _ _ => rfl)) (pa_cons (pv 4) (pa_cons (pv 3) pa_nil)))))))))), ?_⟩)
  · obtain ⟨a, L, c, rfl, _⟩ := h
    rfl
  · obtain ⟨a, L, c, rfl, ⟨ps, hC⟩, k⟩ := h
    obtain ⟨dx, ho⟩ := hC.obj
    have hlen : (refs ps).length = c.count := (List.length_map _).trans hC.count
    have hcnt : c.count ≤ 9 := by rw [← hC.count]; exact hC.few
    refine ⟨(by show 2 ≤ sizeLine; decide), fun R0 hR0 => ?_⟩
    have sm0 : Same H (upd H R0 (.tup [.int 0, .int 0])) := same_new hR0
    refine ⟨_, rfl, a, CC, dx, _, _, rfl, sm0 _ _ ho, T.clC, T.nTh, cF_things _ _, L, refs ps, rfl, .inl (SqL.of (sm0 _ _ hC.lst)), _, _, rfl, rfl, ⟨Int.natCast_nonneg _, ?_, by decide⟩, ?_⟩
    · rw [hlen]
      omega
    have e1 : (1 : Int) * 2 ^ (((refs ps).length : Nat) : Int).toNat = ((2 ^ c.count : Nat) : Int) := by
      rw [Int.toNat_natCast, hlen]
      exact shl_one _
    have hpow : 2 ^ c.count ≤ 512 := Nat.pow_le_pow_right (by decide : 0 < 2) hcnt
    refine ⟨((2 ^ c.count : Nat) : Int), congrArg (fun z => [V.int z]) e1, Int.le_trans (by decide) (Int.natCast_nonneg _), Int.lt_of_le_of_lt (Int.ofNat_le.mpr hpow) (by decide), for_range (n := 2 ^ c.count) (fun i σ H' => ∃ (v4 v5 v6 : Option V) (R : Addr), σ = [some (.ref a), some (.ref g), some (.ref R), some (.int ((walkOf c f1 g1 i).set_ : Nat)), some (.int ((walkOf c f1 g1 i).many : Nat)), v4, v5, v6] ∧
      Same H H' ∧ H' R = some (.tup [.int ((walkOf c f1 g1 i).first : Nat), .int ((walkOf c f1 g1 i).second : Nat)])) ⟨none, none, none, R0, rfl, sm0, upd_same⟩ ?_ ?_⟩
    · rintro i σ H1 hi ⟨v4, v5, v6, R, rfl, sm, hR⟩
      have step := Walk.run_more c (fun s => f1 (pick c s)) (fun s => g1 (pick c s)) i
      unfold walkOf at hR ⊢
      generalize Walk.run c (fun s => f1 (pick c s)) (fun s => g1 (pick c s)) i = wk at step hR ⊢
      have hC1 := hC.same sm
      obtain ⟨dx1, ho1⟩ := hC1.obj
      -- things = self.things_of(chosen)
      refine ⟨_, rfl, a, dx1, _, rfl, ho1, cF_no (by decide +kernel) (by decide +kernel), _, rfl, a, L, c, ps, i, ?_, hC1, fun H2 D sm2 _ hD => ?_⟩
      · show [V.ref a, V.int (0 + (i : Int))] = _
        rw [Int.zero_add]
      have sm12 := sm.trans sm2
      have hC2 := hC.same sm12
      have hA2 : AllAt CT H2 (sel i ps) := fun q hq => hC2.all q (sel_sub hq)
      have few : (sel i ps).length ≤ 9 := Nat.le_trans (sel_len _ _) hC.few
      have hv : vals (sel i ps) = pick c i := sel_pick hC.eq i
      -- rank = rank_of(things)
      refine ⟨rfl, _, rfl, D, sel i ps, rfl, SqL.of hD, hA2, few, fun H4 r sm3 hr3 hr4 => ?_⟩
      rw [hv] at hr4
      have sm4 := sm12.trans sm3
      have hR4 : H4 R = some (.tup [.int (wk.first : Nat), .int (wk.second : Nat)]) := sm3 _ _ (sm2 _ _ hR)
      have hD4 : H4 D = some (.lst (refs (sel i ps))) := sm3 _ _ hD
      -- if rank < foremost_rank or ..
      refine ⟨_, rfl, _, rfl, r, R, [(f1 (pick c i) : Nat), (g1 (pick c i) : Nat)], [(wk.first : Nat), (wk.second : Nat)], rfl, rfl, SqT.of hr4, SqT.of hR4, _, rfl, ?_⟩
      rw [less_more]
      by_cases c1 : Si89.more wk.first wk.second (f1 (pick c i)) (g1 (pick c i)) = true
      · refine if_true_of c1 ?_
        refine if_true_of rfl ?_
        have e := step.trans (if_pos (.inl c1))
        rw [e]
        exact ⟨_, _, _, R, rfl, sm4, hR4⟩
      refine if_false_of (Bool.eq_false_iff.mpr c1) ?_
      have hC4 := hC.same sm4
      obtain ⟨dx4, ho4⟩ := hC4.obj
      refine ⟨_, rfl, _, rfl, a, CC, dx4, _, _, rfl, ho4, T.clC, T.nPl, cF_places _ _, D, sel i ps, c.places, rfl, SqL.of hD4, fun q hq => hC4.all q (sel_sub hq), few, fun H5 days sm5 pd rd => ?_⟩
      rw [hv] at pd ⊢
      rw [first_full c i pd rd]
      have sm6 := sm4.trans sm5
      cases ef : c.full i with
      | some d =>
        refine ⟨rfl, _, rfl, ?_⟩
        refine if_true_of rfl ?_
        have e := step.trans (if_pos (.inr (by rw [ef]; rfl)))
        rw [e]
        exact ⟨_, _, _, R, rfl, sm6, sm5 _ _ hR4⟩
      | none =>
        refine ⟨rfl, _, rfl, ?_⟩
        refine if_false_of rfl ?_
        have c2 : ¬ (Si89.more wk.first wk.second (f1 (pick c i)) (g1 (pick c i)) = true ∨ (c.full i).isSome = true) := by
          rw [ef]
          simp [c1]
        have step2 := step.trans (if_neg c2)
        refine ⟨_, rfl, _, rfl, r, R, (f1 (pick c i) : Nat), (g1 (pick c i) : Nat), (wk.first : Nat), (wk.second : Nat), rfl, rfl, SqT.of (sm5 _ _ hr4), SqT.of (sm5 _ _ hR4), _, rfl, ?_⟩
        rw [great_more]
        by_cases c3 : Si89.more (f1 (pick c i)) (g1 (pick c i)) wk.first wk.second = true
        · refine if_true_of c3 ?_
          rw [if_pos c3] at step2
          refine ⟨_, rfl, _, rfl, _, rfl, _, _, rfl, rfl, ?_⟩
          rw [step2]
          refine ⟨some (.int (i : Int)), some (.ref D), some (.ref r), r, ?_, sm6, sm5 _ _ hr4⟩
          show [some (V.ref a), some (V.ref g), some (V.ref r), some (V.int (0 + (i : Int))), some (V.int (0 + 1)), some (V.int (0 + (i : Int))), some (.ref D), some (.ref r)] = _
          rw [Int.zero_add]
          rfl
        · refine if_false_of (Bool.eq_false_iff.mpr c3) ?_
          rw [if_neg c3] at step2
          refine ⟨_, rfl, _, _, rfl, rfl, ?_⟩
          rw [step2]
          exact ⟨some (.int (0 + (i : Int))), some (.ref D), some (.ref r), R, rfl, sm6, sm5 _ _ hR4⟩
    · rintro σ H1 ⟨v4, v5, v6, R, rfl, sm, hR⟩
      refine ⟨_, rfl, R, _, _, _, rfl, rfl, SqT.of hR, rfl, _, rfl, R, _, _, _, rfl, rfl, SqT.of hR, rfl, _, rfl, _, rfl, (by show 4 ≤ sizeLine; decide), fun p hp => ?_⟩
      exact k H1 p sm hp

/-! ### best, most -/
/-- foremost and the ranks, where they stand -/
structure Ranks (K : PySem.W.Frag) (mg : Str → Option Value) (CC fE fA fB : Addr) (dE dA dB : FuncData) : Prop where
  FE : Fun K "foremost" "Cupboard.foremost" sFore fE dE
  bE : Binds K dE ["self", "rank_of"] []
  mE : Meth K CC "foremost" fE
  FA : Fun K "worth_then_how_many" "worth_then_how_many" sRkW fA dA
  bA : Binds K dA ["things"] []
  mA : mg "worth_then_how_many" = some (.ref fA)
  FB : Fun K "how_many_then_worth" "how_many_then_worth" sRkS fB dB
  bB : Binds K dB ["things"] []
  mB : mg "how_many_then_worth" = some (.ref fB)
def spBest (CT CC : Addr) : Sp := fun vs H Q _ => ∃ (a L : Addr) (c : Cupboard), vs = [.ref a] ∧ CupAt CT CC H a L c ∧ Ends CT CC H a L c .best Q
def spMost (CT CC : Addr) : Sp := fun vs H Q _ => ∃ (a L : Addr) (c : Cupboard), vs = [.ref a] ∧ CupAt CT CC H a L c ∧ Ends CT CC H a L c .most Q
theorem scBs : FnScope ["self"] ["self"] (defScope sBest) := ⟨rfl, rfl, rfl, by decide +kernel, rfl, by decide +kernel, by decide +kernel⟩
theorem scMs : FnScope ["self"] ["self"] (defScope sMost) := ⟨rfl, rfl, rfl, by decide +kernel, rfl, by decide +kernel, by decide +kernel⟩
theorem ok_best {f fP fT fF fW fO fE fA fB : Addr} {fd dP dT dF dW dO dE dA dB : FuncData} (F : Fun K "best" "Cupboard.best" sBest f fd) (T : Txt K mg CT CC) (G : Help K mg CT CC fP fT fF fW fO dP dT dF dW dO) (R : Ranks K mg CC fE fA fB dE dA dB) : FnOk P w K mg base CX0 5 f fd ["self"] (spBest CT CC) := by
  have GE : FnOk P w K mg base CX0 4 fE dE ["self", "rank_of"] (spFore K CT CC fA worthOf List.length) := ok_fore R.FE T G (ok_rankW R.FA T G.FW G.bW G.mW) R.FA.kp R.bA
  refine F.ok scBs (fun vs H Q E h => ?_) (fun cdv A outer s H vs Q E hr h => ⟨_, pss_one (ps_ret (pe_meth (pv 0) T.clC R.mE GE hr R.bE .nil pass0 (pa_cons (pe_glob (v := .ref fA) rfl R.mA rfl) pa_nil))), ?_⟩)
  · obtain ⟨a, L, c, rfl, _⟩ := h
    rfl
  · obtain ⟨a, L, c, rfl, ⟨ps, hC⟩, k⟩ := h
    obtain ⟨dx, ho⟩ := hC.obj
    refine ⟨_, rfl, a, dx, _, rfl, ho, cF_no (by decide +kernel) (by decide +kernel), a, L, c, rfl, ⟨ps, hC⟩, fun H1 p sm hp => ?_⟩
    have e1 : (fun s => worthOf (pick c s)) = c.worth := funext fun s => worth_pick c s
    have e2 : (fun s => (pick c s).length) = c.size := funext fun s => size_pick c s
    have hb : c.best = some (walkOf c worthOf List.length (2 ^ c.count)).best := by
      unfold walkOf
      rw [e1, e2]
      exact bestBy_run c c.worth c.size (worth_zero c) (size_zero c)
    refine k.stay hC sm hp (r := Si89.toldBest c.best) rfl ?_
    rw [hb]
    rfl
theorem ok_most {f fP fT fF fW fO fE fA fB : Addr} {fd dP dT dF dW dO dE dA dB : FuncData} (F : Fun K "most" "Cupboard.most" sMost f fd) (T : Txt K mg CT CC) (G : Help K mg CT CC fP fT fF fW fO dP dT dF dW dO) (R : Ranks K mg CC fE fA fB dE dA dB) : FnOk P w K mg base CX0 5 f fd ["self"] (spMost CT CC) := by
  have GE : FnOk P w K mg base CX0 4 fE dE ["self", "rank_of"] (spFore K CT CC fB List.length worthOf) := ok_fore R.FE T G (ok_rankS R.FB T G.FW G.bW G.mW) R.FB.kp R.bB
  refine F.ok scMs (fun vs H Q E h => ?_) (fun cdv A outer s H vs Q E hr h => ⟨_, pss_one (ps_ret (pe_meth (pv 0) T.clC R.mE GE hr R.bE .nil pass0 (pa_cons (pe_glob (v := .ref fB) rfl R.mB rfl) pa_nil))), ?_⟩)
  · obtain ⟨a, L, c, rfl, _⟩ := h
    rfl
  · obtain ⟨a, L, c, rfl, ⟨ps, hC⟩, k⟩ := h
    obtain ⟨dx, ho⟩ := hC.obj
    refine ⟨_, rfl, a, dx, _, rfl, ho, cF_no (by decide +kernel) (by decide +kernel), a, L, c, rfl, ⟨ps, hC⟩, fun H1 p sm hp => ?_⟩
    have e1 : (fun s => worthOf (pick c s)) = c.worth := funext fun s => worth_pick c s
    have e2 : (fun s => (pick c s).length) = c.size := funext fun s => size_pick c s
    have hb : c.most = some (walkOf c List.length worthOf (2 ^ c.count)).best := by
      unfold walkOf
      rw [e1, e2]
      exact bestBy_run c c.size c.worth (size_zero c) (worth_zero c)
    refine k.stay hC sm hp (r := Si89.toldBest c.most) rfl ?_
    rw [hb]
    rfl
end
end Cup

namespace Cup
open PySem PySem.Spec PyProof.Rows L2 LamX NdefX
open Si89 (Thing Cupboard)

theorem ExtN.seq {K : PySem.W.Frag} {H H' : Hp} {a : Addr} {xs : List V} (e : ExtN H H') (h : SqL K H a xs) : SqL K H' a xs := by
  rcases h with (h | ⟨o, h⟩) | h
  · exact .inl (.inl (e _ _ h fun _ z => nomatch z))
  · exact .inl (.inr ⟨o, e _ _ h fun _ z => nomatch z⟩)
  · exact .inr h
theorem ExtN.all {CT : Addr} {H H' : Hp} {ps : Rows} (e : ExtN H H') (h : AllAt CT H ps) : AllAt CT H' ps := fun p hp =>
  let ⟨dx, q⟩ := h p hp
  ⟨dx, e _ _ q fun _ z => nomatch z⟩
/-- the i-th thing's number of a kind -/
def kOf (g : Thing → Nat) (ps : Rows) (i : Nat) : Int := (((vals ps).map g).getD i 0 : Nat)
theorem kOf_at {g : Thing → Nat} {ps : Rows} {i : Nat} {p : Addr × Thing} (h : ps[i]? = some p) : kOf g ps i = (g p.2 : Nat) := by
  unfold kOf vals
  rw [List.getD_eq_getElem?_getD, List.getElem?_map, List.getElem?_map, h]
  rfl
section
variable {X : Cx} {pins : List (Addr × Obj)} {σ : L2.St} {H : Hp} {s : Shared} {CT : Addr} {F : Str} {g : Thing → Nat} {T : List (Addr × Str)} {c P L : Addr} {ps : Rows}
/-- what the key's calls read, as the names and the heap tell it -/
theorem key_at {i : Nat} (I : Inv X pins σ H s) (hN : X.N[i]? = some "things") (hs : σ[i]? = some (some (.ref L))) (hk : X.env.scope.names.lookup ("things" : Str) = some .cell) (hF : ∀ t : Thing, (tF t).lookup F = some (.int (g t : Nat)))
    (hS : SqL X.K H L (refs ps)) (hA : AllAt CT H ps) : ∃ (d : Addr) (its : List Value), X.env.cells.lookup ("things" : Str) = some d ∧ its.length = ps.length ∧ KeyAt X.K CT F d L its (kOf g ps) s.heap := by
  obtain ⟨m, hn, hl⟩ := I.loc
  obtain ⟨u, r, q⟩ := hl i "things" (.ref L) hN hs (.inr (.inl hk))
  obtain rfl : u = Value.ref L := r
  obtain ⟨its, rv, pl, hz⟩ := I.list hS
  have lens : its.length = ps.length := by rw [← rv.length]; exact List.length_map _
  rcases q with ⟨z, _⟩ | ⟨_, d, hd, hcell⟩
  · have z' : X.env.scope.names.lookup ("things" : Str) = some .local := z
    rw [hk] at z'
    cases z'
  · refine ⟨d, its, hd, lens, I.kIn, I.nolimit, hcell, pl.isList, fun j hj => ?_⟩
    have hp : ps[j]? = some ps[j] := List.getElem?_eq_getElem (by omega)
    generalize ps[j] = p at hp
    obtain ⟨u, hu, ru⟩ := rv.get (i := j) (x := V.ref p.1) (by unfold refs; rw [List.getElem?_map, hp]; rfl)
    obtain rfl : u = Value.ref p.1 := ru
    obtain ⟨dx, ho⟩ := hA p (List.mem_of_getElem? hp)
    obtain ⟨mA, O, r, _, _, _⟩ := ins_get I.hok ho
    obtain ⟨u, hm, ru⟩ := RelO.some_of (v := V.int (g p.2 : Nat)) (o := mA F) (by rw [← hF p.2]; exact r F)
    obtain ⟨t, rfl⟩ := ru
    exact ⟨p.1, dx, mA, t, hu, O, by rw [kOf_at hp]; exact hm⟩
/-- the key is made -/
theorem key_make {params : Arguments} {scope : Scope} {lpos p1 p2 p3 p4 p5 p6 : Pos} {k0 : Nat} {d : Addr} {E : Value → Shared → Prop} {Q : Value → Shared → Prop} (I : Inv X pins σ H s) (TB : TabB X.base X.mg c P) (hcode : X.env.code = .ref c)
    (hm : (P, X.env.qual ++ "<lambda>") ∈ T) (hu : ∀ p ∈ T, p.1 = P → p.2 = X.env.qual ++ "<lambda>") (hT : Tabs T H) (hdef : defaultsOf params X.env = ([], [])) (S : NScope ["number", "things"] ["number"] ["things"] scope) (hk : X.env.scope.names.lookup ("things" : Str) = some .cell)
    (hb : ∀ (q : Str) (cl : List (Str × Addr)) (pm cv ctv v : Value), bindArgs (PySem.W.kla_fn "<lambda>" q params (keyE F p1 p2 p3 p4 p5 p6 k0) scope cl pm cv ctv) ⟨[v], []⟩ = pure [(("number" : Str), v)]) (hd : X.env.cells.lookup ("things" : Str) = some d)
    (h : ∀ (f : Addr) (H1 : Hp) (s' : Shared), Inv X pins σ H1 s' → ExtN H H1 → Tabs T H1 → KeyFn F d f s'.heap → Q (.ref f) s') :
    wpAny (model X.prog X.w) X.A (eval (.Lambda params (keyE F p1 p2 p3 p4 p5 p6 k0) scope lpos) X.env) Q E s := by
  have hfree : ∀ y ∈ scope.names, y.2 = .free → ∃ c, X.env.cells.lookup y.1 = some c := fun y hy e => by
    have z := S.free y hy e
    rw [List.mem_singleton] at z
    exact ⟨d, by rw [z]; exact hd⟩
  refine lam_make2 I TB hcode hm hu hT hdef hfree fun f c' pm ctv H1 s' I1 eN T1 ho _ _ hco => h f H1 s' I1 eN T1 ⟨c', _, params, scope, _, pm, ctv, p1, p2, p3, p4, p5, p6, k0, S, ho, codeO_at I1.hok hco, fun v => hb _ _ _ _ _ _, ?_⟩
  exact clo_has hfree (PySem.mem_of_lookup (S.frk _ (.head _))) hd
/-- a new object that nothing tracks, held by a pin -/
theorem pin_new {o : Obj} {tk : Nat} (I : Inv X pins σ H s) (nc : ∀ v, o.data ≠ .cell v) (hf : o.isFreed = false := by rfl) : Inv X ((s.heap.objs.size, o) :: pins) σ H { s with heap := s.heap.push o, toks := tk } := by
  have J : Inv X pins σ H { s with heap := s.heap.push o, toks := tk } := I.kept fun b u e => Heap.get?_push_of_some _ e
  refine ⟨J.ok, J.os, J.bare, J.base, J.loc, J.cell, J.free, J.freeC, fun p hp => ?_, J.hok, J.len⟩
  rcases List.mem_append.mp hp with z | z
  · exact J.pin p (List.mem_append_left _ z)
  · rcases List.mem_cons.mp z with rfl | z
    · exact ⟨Heap.get?_push_size _ hf, I.hok.fresh (Nat.le_refl _), Nat.ne_of_gt I.lt, I.nofs (Nat.le_refl _), nc⟩
    · exact J.pin p (List.mem_append_right _ z)
theorem pin_off {q : Addr × Obj} (I : Inv X (q :: pins) σ H s) : Inv X pins σ H s :=
  ⟨I.ok, I.os, I.bare, I.base, I.loc, I.cell, I.free, I.freeC, fun p hp => I.pin p (by
    rcases List.mem_append.mp hp with z | z
    · exact List.mem_append_left _ z
    · exact List.mem_append_right _ (.tail _ z)), I.hok, I.len⟩
end
/-- the numbers of the rows in the order that the key gives -/
def lineBy (g : Thing → Nat) (ps : Rows) : List Nat := (List.range ps.length).mergeSort (PySem.W.dataLe false fun i : Nat => .tuple [.int (kOf g ps i), .int (i : Nat)])
theorem each_ints : ∀ {vs : List Value} {l : List Nat}, PySem.W.EachIs (fun (v : Value) (i : Nat) => ∃ t, v = Value.int (i : Nat) t) vs l → Vals (intsV l) vs
  | _, _, .nil => .nil
  | _, _, .cons h t => .cons h (each_ints t)
section
variable {X : Cx} {k : Nat} {CT c P : Addr} {F : Str} {g : Thing → Nat} {T : List (Addr × Str)}
/-- sorted(range(e), key=lambda number: (things[number].F, number)), e the number of things -/
def tSortK (K : PySem.W.Frag) (CT : Addr) (g : Thing → Nat) (T : List (Addr × Str)) (i : Nat) (te : TE) : TE := fun σ H Q => te σ H fun v H1 => ∃ (L : Addr) (ps : Rows), v = .int (ps.length : Nat) ∧ σ[i]? = some (some (.ref L)) ∧ SqL K H1 L (refs ps) ∧ AllAt CT H1 ps ∧ ps.length ≤ 1000 ∧ Tabs T H1 ∧
  ∀ (p : Addr) (H2 : Hp), H1 p = none → ExtN H1 H2 → Tabs T H2 → H2 p = some (.lst (intsV (lineBy g ps))) → Q (.ref p) H2
theorem pe_sortK {e1 : Expr} {te : TE} {i : Nat} {params : Arguments} {scope : Scope} {lpos kpos q0 q1 q2 pos p1 p2 p3 p4 p5 p6 : Pos} {k0 : Nat} (hcm : X.calm = true) (hr : Room k X.A) (hg : Gl X "sorted") (hm : X.mg "sorted" = none) (hg2 : Gl X "range") (hm2 : X.mg "range" = none) (ha : PE X e1 te)
    (hN : X.N[i]? = some "things") (hk : X.env.scope.names.lookup ("things" : Str) = some .cell) (hc : Cls X.K CT) (hn : NoAttr X.K CT F) (hF : ∀ t : Thing, (tF t).lookup F = some (.int (g t : Nat))) (TB : TabB X.base X.mg c P) (hcode : X.env.code = .ref c)
    (hmT : (P, X.env.qual ++ "<lambda>") ∈ T) (hu : ∀ p ∈ T, p.1 = P → p.2 = X.env.qual ++ "<lambda>") (hdef : defaultsOf params X.env = ([], [])) (S : NScope ["number", "things"] ["number"] ["things"] scope)
    (hb : ∀ (q : Str) (cl : List (Str × Addr)) (pm cv ctv v : Value), bindArgs (PySem.W.kla_fn "<lambda>" q params (keyE F p1 p2 p3 p4 p5 p6 k0) scope cl pm cv ctv) ⟨[v], []⟩ = pure [(("number" : Str), v)])
    (na : starEach [e1] X.env = (false, eval e1 X.env) :: starEach [] X.env := by rfl)
    (na2 : starEach [Expr.Call (.Name "range" q1) [e1] [] q2] X.env = (false, eval (.Call (.Name "range" q1) [e1] [] q2) X.env) :: starEach [] X.env := by rfl) :
    PE X (.Call (.Name "sorted" q0) [.Call (.Name "range" q1) [e1] [] q2] [⟨some "key", .Lambda params (keyE F p1 p2 p3 p4 p5 p6 k0) scope lpos, kpos⟩] pos) (tSortK X.K CT g T i te) := by
  refine ⟨fun pins s σ H Q I h => ?_⟩
  refine wpAny_Call_Name_kw (ld_blt I hg hm (u := .builtin "sorted") (by decide +kernel) ?_ (by decide) (by decide))
  refine PyProof.Rows.callWith_kw (args_cons (Call_ (ld_blt I hg2 hm2 boot_range (PyProof.Rows.callWith_type1 (one_arg ha I h (fun v s2 x H2 I2 r q => ?_) na) na))) na2) (by rfl) (by rfl) (by rfl) (by rfl)
  obtain ⟨L, ps, rfl, hs, hS, hA, h20, hT, q⟩ := q
  obtain ⟨t, rfl⟩ := r
  refine call_range_1 (args_nil ?_)
  have I3 := pin_new (tk := s2.toks + 1 + 1) (o := { cls := .type "range", data := .fields #[.int 0 s2.toks, .int (ps.length : Nat) t, .int 1 (s2.toks + 1)] }) I2 (fun v z => nomatch z)
  generalize hr0 : s2.heap.objs.size = r0 at I3 ⊢
  generalize ho0 : ({ cls := .type "range", data := .fields #[.int 0 s2.toks, .int (ps.length : Nat) t, .int 1 (s2.toks + 1)] } : Obj) = o0 at I3 ⊢
  generalize ({ s2 with heap := s2.heap.push o0, toks := s2.toks + 1 + 1 } : Shared) = s3 at I3 ⊢
  obtain ⟨d, its0, hd, _, _⟩ := key_at I3 hN hs hk hF hS hA
  show wpAny _ _ (evalAll [do let v ← eval _ X.env; standAt pos; pure v]) _ _ s3
  refine wpAny_evalAll_cons (wpAny_bind (key_make I3 TB hcode hmT hu hT hdef S hk hb hd fun f H4 s4 I4 eN T4 kf => wpAny_bind (wpAny_standAt (wpAny_pure (wpAny_evalAll_nil ?_)))))
  have hS4 := ExtN.seq eN hS
  have hA4 := ExtN.all eN hA
  obtain ⟨d', its, hd', lens, kat⟩ := key_at I4 hN hs hk hF hS4 hA4
  rw [hd] at hd'
  cases hd'
  have hr4 : IsRange s4.heap r0 0 (ps.length : Nat) 1 s2.toks t (s2.toks + 1) := by
    have z := (I4.pin (r0, o0) (List.mem_append_right _ (.head _))).1
    rw [← ho0] at z
    exact z
  have I5 := pin_off I4
  show wpAny _ _ (call (.builtin "sorted") [.ref r0] [(Str.ofString "key", .ref f)]) _ _ s4
  have hun := hr.units
  refine sort_range (I5.ok.hd hcm) hr4 hr.depth (by omega) kf kat hc hn lens h20 fun h1 h' tk p out e kk1 kk2 hp ho hlen he => ?_
  have J1 : Inv X pins σ H4 { s4 with heap := h1, toks := tk } := I5.kept kk1
  have hz : (intsV (lineBy g ps)).length ≤ sizeLine := by
    rw [intsV_len]
    unfold lineBy
    rw [List.length_mergeSort, List.length_range]
    exact Nat.le_of_lt (small1000 h20)
  have nP : H4 p = none := J1.hok.fresh hp
  refine ⟨.ref p, upd H4 p (.lst (intsV (lineBy g ps))), J1.laid (t' := tk) kk2 hp ⟨hz, out, e, each_ints he, ho⟩, rfl, ?_⟩
  have sm : Same H4 (upd H4 p (.lst (intsV (lineBy g ps)))) := same_new nP
  refine q p _ (I2.hok.fresh ?_) (eN.trans (ExtN.of sm)) (T4.ext sm) upd_same
  have z := Heap.lt_size (kk1 _ _ hr4)
  show s2.heap.objs.size ≤ p
  rw [hr0]
  exact Nat.le_of_lt (Nat.lt_of_lt_of_le z hp)
theorem intsV_get {l : List Nat} {vs : List Value} (r : Vals (intsV l) vs) (j x : Nat) (h : l[j]? = some x) : ∃ t, vs[j]? = some (.int (x : Nat) t) := by
  obtain ⟨u, hu, t, rfl⟩ := r.get (i := j) (x := V.int (x : Nat)) (by unfold intsV nats; rw [List.getElem?_map, List.getElem?_map, h]; rfl)
  exact ⟨t, hu⟩
/-- max(e, key=lambda number: (things[number].F, number)) -/
def tMaxK (K : PySem.W.Frag) (CT : Addr) (g : Thing → Nat) (T : List (Addr × Str)) (i : Nat) (te : TE) : TE := fun σ H Q => te σ H fun v H1 => ∃ (a L : Addr) (ps : Rows) (ns : List Nat), v = .ref a ∧ σ[i]? = some (some (.ref L)) ∧ SqL K H1 a (intsV ns) ∧ SqL K H1 L (refs ps) ∧ AllAt CT H1 ps ∧ ps.length ≤ 1000 ∧ 0 < ns.length ∧
  (∀ y ∈ ns, y < ps.length) ∧ Tabs T H1 ∧ ∀ (m : Nat) (H2 : Hp), m ∈ ns → (∀ y ∈ ns, PairLe (kOf g ps) y m) → ExtN H1 H2 → Tabs T H2 → Q (.int (m : Nat)) H2
theorem pe_maxK {e1 : Expr} {te : TE} {i : Nat} {params : Arguments} {scope : Scope} {lpos kpos q0 pos p1 p2 p3 p4 p5 p6 : Pos} {k0 : Nat} (hcm : X.calm = true) (hr : Room k X.A) (hg : Gl X "max") (hm : X.mg "max" = none) (ha : PE X e1 te)
    (hN : X.N[i]? = some "things") (hk : X.env.scope.names.lookup ("things" : Str) = some .cell) (hc : Cls X.K CT) (hn : NoAttr X.K CT F) (hF : ∀ t : Thing, (tF t).lookup F = some (.int (g t : Nat))) (TB : TabB X.base X.mg c P) (hcode : X.env.code = .ref c)
    (hmT : (P, X.env.qual ++ "<lambda>") ∈ T) (hu : ∀ p ∈ T, p.1 = P → p.2 = X.env.qual ++ "<lambda>") (hdef : defaultsOf params X.env = ([], [])) (S : NScope ["number", "things"] ["number"] ["things"] scope)
    (hb : ∀ (q : Str) (cl : List (Str × Addr)) (pm cv ctv v : Value), bindArgs (PySem.W.kla_fn "<lambda>" q params (keyE F p1 p2 p3 p4 p5 p6 k0) scope cl pm cv ctv) ⟨[v], []⟩ = pure [(("number" : Str), v)])
    (na : starEach [e1] X.env = (false, eval e1 X.env) :: starEach [] X.env := by rfl) (na2 : backTo pos (starEach [e1] X.env) = (false, eval e1 X.env) :: backTo pos (starEach [] X.env) := by rfl) (na3 : (backTo pos (starEach [e1] X.env)).any (·.1) = false := by rfl) :
    PE X (.Call (.Name "max" q0) [e1] [⟨some "key", .Lambda params (keyE F p1 p2 p3 p4 p5 p6 k0) scope lpos, kpos⟩] pos) (tMaxK X.K CT g T i te) := by
  refine ⟨fun pins s σ H Q I h => ?_⟩
  refine wpAny_Call_Name_kw (ld_blt I hg hm (u := .builtin "max") (by decide +kernel) ?_ (by decide) (by decide))
  refine PyProof.Rows.callWith_kw (one_arg ha I h (fun v s3 x H2 I3 r q => ?_) na) na2 na3 (by rfl) (by rfl)
  obtain ⟨a, L, ps, ns, rfl, hs, hSa, hS, hA, h20, h0, hlt, hT, q⟩ := q
  obtain rfl : v = Value.ref a := r
  obtain ⟨d, its0, hd, _, _⟩ := key_at I3 hN hs hk hF hS hA
  show wpAny _ _ (evalAll [do let v ← eval _ X.env; standAt pos; pure v]) _ _ s3
  refine wpAny_evalAll_cons (wpAny_bind (key_make I3 TB hcode hmT hu hT hdef S hk hb hd fun f H4 s4 I4 eN T4 kf => wpAny_bind (wpAny_standAt (wpAny_pure (wpAny_evalAll_nil ?_)))))
  have hS4 := ExtN.seq eN hS
  have hA4 := ExtN.all eN hA
  obtain ⟨d', its, hd', lens, kat⟩ := key_at I4 hN hs hk hF hS4 hA4
  rw [hd] at hd'
  cases hd'
  obtain ⟨vs, rv, pl, _⟩ := I4.list (ExtN.seq eN hSa)
  show wpAny _ _ (call (.builtin "max") [.ref a] [(Str.ofString "key", .ref f)]) _ _ s4
  have hun := hr.units
  refine max_key (I4.ok.hd hcm) hr.depth (by omega) pl.isList (intsV_get rv) (by rw [← rv.length, intsV_len]) h0 kf kat hc hn (fun y hy => by rw [lens]; exact hlt y hy) (by rw [lens]; exact Nat.le_of_lt (small1000 h20)) fun m t h' tk hm hb' kp => ?_
  exact ⟨.int (m : Nat), H4, I4.kept kp, ⟨_, rfl⟩, q m H4 hm hb' eN T4⟩
/-- max(e, default=0), whole numbers -/
def rMaxD (K : PySem.W.Frag) : List V → List V → Hp → VK → Prop := fun xs zs H Q => ∃ (a : Addr) (ns : List Int), xs = [.ref a] ∧ zs = [.int 0] ∧ SqL K H a (ns.map V.int) ∧ ∀ m : Int, ((ns = [] ∧ m = 0) ∨ (m ∈ ns ∧ ∀ y ∈ ns, y ≤ m)) → Q (.int m) H
theorem cr_maxD (hcm : X.calm = true) (hr : Room k X.A) : CallRK X (.builtin "max") [Str.ofString "default"] (rMaxD X.K) := by
  intro pins s σ H xs zs us ws Q I r rz h
  obtain ⟨a, ns, rfl, rfl, hS, q⟩ := h
  obtain rfl := Vals.ref1 r
  obtain ⟨w1, rfl, t0, rfl⟩ := vals1 rz
  obtain ⟨vs, rv, pl, _⟩ := I.list hS
  have hun := hr.units
  refine max_dflt (ns := ns) (I.ok.hd hcm) (by omega) pl.isList (fun j x hx => ?_) (by rw [← rv.length, List.length_map]) (fun e h' tk kp => ⟨.int 0, H, I.kept kp, ⟨_, rfl⟩, q 0 (.inl ⟨e, rfl⟩)⟩) fun m t h' tk hm hb kp => ⟨.int m, H, I.kept kp, ⟨_, rfl⟩, q m (.inr ⟨hm, hb⟩)⟩
  obtain ⟨u, hu, t, rfl⟩ := rv.get (i := j) (x := V.int x) (by rw [List.getElem?_map, hx]; rfl)
  exact ⟨t, hu⟩
end
end Cup

namespace Cup
open PySem PySem.Spec PyProof.Rows L2 LamX NdefX
open Si89 (Thing Cupboard)
/-- the tables of the two defs that make a lambda -/
def tabs (P1 P2 : Addr) : List (Addr × Str) := [(P1, ("numbers_as_they_come" : Str) ++ ".<locals>." ++ "<lambda>"), (P2, ("asked_for_last" : Str) ++ ".<locals>." ++ "<lambda>")]
section
variable {P : Program} {w : World} {K : PySem.W.Frag} {mg : Str → Option Value} {base : Heap} {CT CC P1 P2 c1 c2 : Addr}
/-- a def whose code object is known -/
theorem ok_code {x qual : Str} {st : Stmt} {f c : Addr} {fd : FuncData} {N ps : List Str} {k : Nat} {sp : Sp} (F : Fun K x qual st f fd) (hc : fd.code = .ref c) (S : FnScope N ps (defScope st)) (len : ∀ vs H Q E, sp vs H Q E → vs.length = ps.length)
    (hbody : ∀ (A : Around) (outer : List Env) (s : Shared) (H : Hp) (vs : List V) (Q : VK) (E : XK), Room k (A.deeper (envOfC qual (defScope st) s.heap.objs.size f (.ref c))) → sp vs H Q E →
      ∃ t, PSs (cxOf CX0 P w K mg base N qual (defScope st) f (.ref c) A outer s H E).nox (defBody st) t ∧ t { nx := fun _ H' => Q .non H', rt := Q } (start N vs) H) : FnOk P w K mg base CX0 (k + 1) f fd ps sp := by
  obtain ⟨oc, od, kV, doc, pm, an, cdv, ct, osl, rfl, lk, hcd⟩ := F.ex
  have e : cdv = .ref c := hc
  subst e
  refine fn_of lk hcd S len fun A outer s H vs Q E hr hsp => ?_
  obtain ⟨t, h, q⟩ := hbody A outer s H vs Q E hr hsp
  exact ⟨t, h.nox, q⟩

/-! ### numbers_as_they_come, asked_for_last -/
def spLine (K : PySem.W.Frag) (CT P1 P2 : Addr) : Sp := fun vs H Q _ => ∃ (L : Addr) (ps : Rows), vs = [.ref L] ∧ SqL K H L (refs ps) ∧ AllAt CT H ps ∧ ps.length ≤ 1000 ∧ Tabs (tabs P1 P2) H ∧
  ∀ (p : Addr) (H2 : Hp), H p = none → ExtN H H2 → Tabs (tabs P1 P2) H2 → H2 p = some (.lst (intsV (lineBy Thing.comes ps))) → Q (.ref p) H2
theorem scLi : FnScope ["things"] ["things"] (defScope sLine) := ⟨rfl, rfl, rfl, by decide +kernel, rfl, by decide +kernel, by decide +kernel⟩
theorem ok_line {f : Addr} {fd : FuncData} (F : Fun K "numbers_as_they_come" "numbers_as_they_come" sLine f fd) (hc : fd.code = .ref c1) (T : Txt K mg CT CC) (TB : TabB base mg c1 P1) (ne : P1 ≠ P2) : FnOk P w K mg base CX0 1 f fd ["things"] (spLine K CT P1 P2) := by
  refine ok_code F hc scLi (fun vs H Q E h => ?_) (fun A outer s H vs Q E hr h => ⟨_, pss_one (ps_ret (pe_sortK (F := "comes") (g := Thing.comes) (T := tabs P1 P2) (i := 0) rfl hr (by rfl) T.sorted (by rfl) T.range (pe_callB call_len_seq (by rfl) T.len PySem.boot_len (pa_cons (pv 0) pa_nil)) rfl rfl T.clT T.nCo tF_comes TB rfl
    (.head _) (fun p hp e => ?_) rfl (nscope_by (by decide +kernel)) (fun _ _ _ _ _ _ => rfl))), ?_⟩)
  · obtain ⟨L, ps, rfl, _⟩ := h
    rfl
  · rcases List.mem_cons.mp hp with rfl | hp
    · rfl
    · rcases List.mem_singleton.mp hp with rfl
      exact absurd e.symm ne
  · obtain ⟨L, ps, rfl, hS, hA, h20, hT, k⟩ := h
    refine ⟨_, rfl, L, refs ps, rfl, .inl hS, L, ps, ?_, rfl, hS, hA, h20, hT, k⟩
    unfold refs
    rw [List.length_map]
def spLast (K : PySem.W.Frag) (CT P1 P2 : Addr) : Sp := fun vs H Q _ => ∃ (L a : Addr) (ps : Rows) (ns : List Nat), vs = [.ref L, .ref a] ∧ SqL K H a (intsV ns) ∧ SqL K H L (refs ps) ∧ AllAt CT H ps ∧ ps.length ≤ 1000 ∧ 0 < ns.length ∧ (∀ y ∈ ns, y < ps.length) ∧ Tabs (tabs P1 P2) H ∧
  ∀ (m : Nat) (H2 : Hp), m ∈ ns → (∀ y ∈ ns, PairLe (kOf Thing.asked ps) y m) → ExtN H H2 → Tabs (tabs P1 P2) H2 → Q (.int (m : Nat)) H2
theorem scLa : FnScope ["things", "numbers"] ["things", "numbers"] (defScope sLast) := ⟨rfl, rfl, rfl, by decide +kernel, rfl, by decide +kernel, by decide +kernel⟩
theorem ok_last {f : Addr} {fd : FuncData} (F : Fun K "asked_for_last" "asked_for_last" sLast f fd) (hc : fd.code = .ref c2) (T : Txt K mg CT CC) (TB : TabB base mg c2 P2) (ne : P1 ≠ P2) : FnOk P w K mg base CX0 1 f fd ["things", "numbers"] (spLast K CT P1 P2) := by
  refine ok_code F hc scLa (fun vs H Q E h => ?_) (fun A outer s H vs Q E hr h => ⟨_, pss_one (ps_ret (pe_maxK (F := "asked_for") (g := Thing.asked) (T := tabs P1 P2) (i := 0) rfl hr (by rfl) T.max (pv 1) rfl rfl T.clT T.nAs tF_asked TB rfl
    (.tail _ (.head _)) (fun p hp e => ?_) rfl (nscope_by (by decide +kernel)) (fun _ _ _ _ _ _ => rfl))), ?_⟩)
  · obtain ⟨L, a, ps, ns, rfl, _⟩ := h
    rfl
  · rcases List.mem_cons.mp hp with rfl | hp
    · exact absurd e ne
    · rcases List.mem_singleton.mp hp with rfl
      rfl
  · obtain ⟨L, a, ps, ns, rfl, hSa, hS, hA, h20, h0, hlt, hT, k⟩ := h
    exact ⟨_, rfl, a, L, ps, ns, rfl, rfl, hSa, hS, hA, h20, h0, hlt, hT, k⟩

theorem extN_at {H H' : Hp} {p : Addr} {o : HO} (h : H p = none) (s : ExtN H H') : ExtN H (upd H' p o) := fun b o' e n => (upd_ne (ne_of_none e h)).trans (s b o' e n)
/-- the tables hang on tables and code objects alone -/
theorem tabs_frame {T : List (Addr × Str)} {H H' : Hp} (h : Tabs T H) (e : ∀ b o, H b = some o → ((∃ ps, o = .tbl ps) ∨ ∃ φ, o = .ext φ) → H' b = some o) : Tabs T H' := fun p hp => by
  obtain ⟨ps, h1, h2, h3⟩ := h p hp
  refine ⟨ps, e _ _ h1 (.inl ⟨ps, rfl⟩), h2, fun pos cv hc => ?_⟩
  obtain ⟨c, q1, q2⟩ := h3 pos cv hc
  exact ⟨c, q1, e _ _ q2 (.inr ⟨_, rfl⟩)⟩
theorem tabs_put {T : List (Addr × Str)} {H : Hp} {D : Addr} {xs : List V} {o : HO} (h : Tabs T H) (hD : H D = some (.lst xs)) : Tabs T (upd H D o) := tabs_frame h fun b u e q => by
  have n : b ≠ D := fun z => by
    rw [z, hD] at e
    cases e
    rcases q with ⟨_, q⟩ | ⟨_, q⟩ <;> cases q
  exact (upd_ne n).trans e

/-! ### kept_as_they_come -/
theorem kOf_thing {g : Thing → Nat} (hg : g ⟨0, 0, 0⟩ = 0) {c : Cupboard} {ps : Rows} (e : vals ps = c.things) (i : Nat) : kOf g ps i = (g (c.thing i) : Nat) := by
  unfold kOf Cupboard.thing
  rw [← e, List.getD_eq_getElem?_getD, List.getD_eq_getElem?_getD, List.getElem?_map]
  cases (vals ps)[i]? with
  | none => rw [Option.map_none, Option.getD_none, Option.getD_none, hg]
  | some t => rfl
theorem line_eq {c : Cupboard} {ps : Rows} (e : vals ps = c.things) : lineBy Thing.comes ps = c.line := by
  have n : c.count = ps.length := by
    unfold Cupboard.count
    rw [← e]
    exact List.length_map _
  unfold lineBy Cupboard.line Cupboard.all_
  rw [PySem.W.dataLe_ii, n]
  congr 1
  funext i j
  rw [kOf_thing rfl e, kOf_thing rfl e, Bool.eq_iff_iff]
  simp only [decide_eq_true_eq, Bool.or_eq_true, Bool.and_eq_true, beq_iff_eq]
  omega
theorem erase_nats {l : List Nat} (h : l.Nodup) (m : Nat) : (nats l).erase (m : Int) = nats (l.filter fun j => j != m) := by
  rw [← h.erase_eq_filter]
  unfold nats
  induction l with
  | nil => rfl
  | cons a l ih =>
    rw [List.map_cons, List.erase_cons, List.erase_cons]
    by_cases e : a = m
    · subst e
      simp
    · have e2 : ¬ ((a : Int) = (m : Int)) := fun z => e (Int.ofNat.inj z)
      rw [if_neg (by simpa using e2), if_neg (by simpa using e), List.map_cons, ih (List.nodup_cons.mp h).2]
def spKept (K : PySem.W.Frag) (CT P1 P2 : Addr) : Sp := fun vs H Q _ => ∃ (L : Addr) (ps : Rows) (n : Nat), vs = [.ref L, .int (n : Nat)] ∧ SqL K H L (refs ps) ∧ AllAt CT H ps ∧ ps.length ≤ 9 ∧ Tabs (tabs P1 P2) H ∧
  ∀ (p : Addr) (H2 : Hp), H p = none → ExtN H H2 → Tabs (tabs P1 P2) H2 → H2 p = some (.lst (intsV (keptOf ⟨n, vals ps⟩))) → Q (.ref p) H2
theorem scKe : FnScope ["things", "places", "kept", "number", "day", "there", "other"] ["things", "places"] (defScope sKept) := ⟨rfl, rfl, rfl, by decide +kernel, rfl, by decide +kernel, by decide +kernel⟩
/-- the defs that it calls, where they stand -/
structure Lines (K : PySem.W.Frag) (mg : Str → Option Value) (base : Heap) (c1 c2 P1 P2 fL fA : Addr) (dL dA : FuncData) : Prop where
  FL : Fun K "numbers_as_they_come" "numbers_as_they_come" sLine fL dL
  cL : dL.code = .ref c1
  bL : Binds K dL ["things"] []
  mL : mg "numbers_as_they_come" = some (.ref fL)
  FA : Fun K "asked_for_last" "asked_for_last" sLast fA dA
  cA : dA.code = .ref c2
  bA : Binds K dA ["things", "numbers"] []
  mA : mg "asked_for_last" = some (.ref fA)
  T1 : TabB base mg c1 P1
  T2 : TabB base mg c2 P2
  ne : P1 ≠ P2
theorem ok_kept {f fP fL fA : Addr} {fd dP dL dA : FuncData} (F : Fun K "kept_as_they_come" "kept_as_they_come" sKept f fd) (T : Txt K mg CT CC) (M : PlaceM K CT fP dP) (Z : Lines K mg base c1 c2 P1 P2 fL fA dL dA) : FnOk P w K mg base CX0 2 f fd ["things", "places"] (spKept K CT P1 P2) := by
  have GP : FnOk P w K mg base CX0 1 fP dP ["self", "day"] (spTakes CT) := ok_takes M.F T
  have GL : FnOk P w K mg base CX0 1 fL dL ["things"] (spLine K CT P1 P2) := ok_line Z.FL Z.cL T Z.T1 Z.ne
  have GA : FnOk P w K mg base CX0 1 fA dA ["things", "numbers"] (spLast K CT P1 P2) := ok_last Z.FA Z.cA T Z.T2 Z.ne
  refine F.ok scKe (fun vs H Q E h => ?_) (fun cdv A outer s H vs Q E hr h => ⟨_,
    pss_cons (ps_set (i := 2) scKe.nd rfl (Or.inl rfl) (pe_lst pa_nil))
    (pss_cons (ps_for PassesOwn.never rfl (pi_list (pe_call GL hr (by rfl) Z.mL Z.FL.kp Z.bL .nil pass0 (pa_cons (pv 0) pa_nil))) (pg_name (i := 3) scKe.nd rfl (Or.inl rfl))
      (pss_cons (ps_expr (pe_bm PySem.F.plainAttrs_list PySem.F.slot_list_append PySem.F.type_list_append mt_append (pv 2) (pa_cons (pv 3) pa_nil)))
      (pss_cons (ps_set (i := 4) scKe.nd rfl (Or.inr rfl) (pe_fld (pe_ix ix_list (pv 0) (pv 3) (fun _ _ => rfl)) rfl))
      (pss_cons (ps_setLc (i := 5) (own := [("other", 6)]) (g := gName 6) (tt := tB (tMeth CT "takes_a_place" (spTakes CT) [] E0 (tOp (rIxL K) (tVar 0) (tVar 6)) (tCons (tVar 4) tNil))) (te := tVar 6) (by rfl) scKe.nd rfl rfl (sw_true rfl rfl rfl (by decide +kernel)) (pi_list (pv 2))
          (blkOk_by (own := [("other", 6)]) (N := ["things", "places", "kept", "number", "day", "there", "other"]) (sc := defScope sKept) (by decide +kernel)) (fun _ _ _ _ _ => pg_name (i := 6) scKe.nd rfl (Or.inl rfl))
          (fun _ _ _ _ _ => pts_one (pt_val (pe_meth (pe_ix ix_list (pv 0) (pv 6) (fun _ _ => rfl)) T.clT M.m GP hr M.b .nil pass0 (pa_cons (pv 4) pa_nil)))) (fun _ _ _ _ _ => pv 6))
      (pss_one (ps_if (pt_cmpR op_gt (pe_callB call_len_seq (by rfl) T.len PySem.boot_len (pa_cons (pv 5) pa_nil)) (pv 1) (nomark _))
        (pss_one (ps_expr (pe_bm PySem.F.plainAttrs_list PySem.F.slot_list_remove PySem.F.type_list_remove mt_remove (pv 2) (pa_cons (pe_call GA hr (by rfl) Z.mA Z.FA.kp Z.bA .nil pass0 (pa_cons (pv 0) (pa_cons (pv 5) pa_nil))) pa_nil)))) pss_nil))))))
    (pss_one (ps_ret (pv 2)))), ?_⟩)
  · obtain ⟨L, ps, n, rfl, _⟩ := h
    rfl
  · obtain ⟨L, ps, n, rfl, hS, hA, hl, hT, k⟩ := h
    generalize ec : (⟨n, vals ps⟩ : Cupboard) = c at k
    have ev : vals ps = c.things := by rw [← ec]
    have en : c.places = n := by rw [← ec]
    have el := line_eq ev
    have hcount : c.count = ps.length := by
      unfold Cupboard.count
      rw [← ev]
      exact List.length_map _
    have hlen : c.line.length = ps.length := by
      rw [(line_perm c).length_eq, List.length_range, hcount]
    refine ⟨(by show 0 ≤ sizeLine; decide), fun D hD => ?_⟩
    have sm0 : Same H (upd H D (.lst [])) := same_new hD
    refine ⟨_, rfl, L, ps, rfl, sm0.seq hS, hA.same sm0, by omega, hT.ext sm0, fun p H1 hp eN1 T1 hp1 => ?_⟩
    rw [el] at hp1
    have hDp : D ≠ p := fun z => by
      rw [← z, upd_same] at hp
      cases hp
    have hD1 : H1 D = some (.lst []) := eN1 _ _ upd_same fun _ z => nomatch z
    have e1 : ExtN H H1 := (ExtN.of sm0).trans eN1
    refine ⟨p, rfl, ⟨_, SqL.of hp1⟩, for_list (K := K) (a := p) (xs := intsV c.line) (fun i σ H' => ∃ v3 v4 v5 : Option V, σ = [some (.ref L), some (.int (n : Nat)), some (.ref D), v3, v4, v5, none] ∧ ExtN H H' ∧ Tabs (tabs P1 P2) H' ∧ H' p = some (.lst (intsV c.line)) ∧
      H' D = some (.lst (intsV ((c.line.take i).foldl (come c) [])))) ⟨none, none, none, rfl, e1, T1, hp1, hD1⟩ (fun i σ H' _ ⟨_, _, _, _, _, _, q, _⟩ => SqL.of q) ?_ ?_⟩
    · rintro i x σ H' hx ⟨v3, v4, v5, rfl, eN, Ti, hpi, hDi⟩
      obtain ⟨y, hy, rfl⟩ := intsV_at hx
      have step : (c.line.take (i + 1)).foldl (come c) [] = come c ((c.line.take i).foldl (come c) []) y := by
        rw [take_more hy, List.foldl_append]
        rfl
      have sub0 := fold_sub c (c.line.take i) []
      rw [List.nil_append] at sub0
      generalize (c.line.take i).foldl (come c) [] = kept at step hDi sub0
      have sub1 : (kept ++ [y]).Sublist (c.line.take (i + 1)) := by
        rw [take_more hy]
        exact sub0.append_right [y]
      have sub : (kept ++ [y]).Sublist c.line := sub1.trans (List.take_sublist _ _)
      have ndn : (kept ++ [y]).Nodup := (line_nodup c).sublist sub
      have ltn : ∀ z ∈ kept ++ [y], z < ps.length := fun z hz => by
        have := (line_mem c z).mp (sub.subset hz)
        omega
      have lenn : (kept ++ [y]).length ≤ 9 := Nat.le_trans sub.length_le (by rw [hlen]; exact hl)
      -- kept.append(number)
      refine ⟨_, rfl, .inl ⟨rfl, _, SqL.of hDi⟩, _, rfl, D, _, _, rfl, rfl, hDi, ?_, ?_⟩
      · rw [intsV_len]
        rw [List.length_append] at lenn
        exact small1000 (by omega)
      rw [← intsV_more]
      have hpD : p ≠ D := Ne.symm hDp
      have eN2 : ExtN H (upd H' D (.lst (intsV (kept ++ [y])))) := extN_at hD eN
      have T2 : Tabs (tabs P1 P2) (upd H' D (.lst (intsV (kept ++ [y])))) := tabs_put Ti hDi
      have hp2 : upd H' D (.lst (intsV (kept ++ [y]))) p = some (.lst (intsV c.line)) := (upd_ne hpD).trans hpi
      have hD2 : upd H' D (.lst (intsV (kept ++ [y]))) D = some (.lst (intsV (kept ++ [y]))) := upd_same
      generalize upd H' D (.lst (intsV (kept ++ [y]))) = H2 at eN2 T2 hp2 hD2 ⊢
      generalize en' : kept ++ [y] = now at *
      have row : ∀ z, z ∈ now → ∃ q, ps[z]? = some q ∧ q.2 = c.thing z ∧ (refs ps)[z]? = some (V.ref q.1) := fun z hz => by
        obtain ⟨q, hq⟩ : ∃ q, ps[z]? = some q := ⟨_, List.getElem?_eq_getElem (ltn z hz)⟩
        refine ⟨q, hq, ?_, ?_⟩
        · unfold Cupboard.thing
          rw [← ev, List.getD_eq_getElem?_getD]
          unfold vals
          rw [List.getElem?_map, hq]
          rfl
        · unfold refs
          rw [List.getElem?_map, hq]
          rfl
      have ymem : y ∈ now := by
        rw [← en']
        simp
      obtain ⟨q, hq, hqt, hqr⟩ := row y ymem
      have hA2 := ExtN.all eN2 hA
      have hS2 := ExtN.seq eN2 hS
      obtain ⟨dx, hpt⟩ := hA2 q (List.mem_of_getElem? hq)
      -- day = things[number].comes
      refine ⟨_, rfl, _, rfl, L, refs ps, _, _, rfl, rfl, hS2, atI_nat hqr, q.1, CT, dx, _, _, rfl, hpt, T.clT, T.nCo, tF_comes _, ?_⟩
      rw [hqt]
      -- there = [..]
      refine ⟨_, rfl, D, rfl, ⟨_, SqL.of hD2⟩, fun B hB => lc_list (K := K) (a := D) (xs := intsV now) (fun j H'' => Same H2 H'' ∧ H'' B = some (.lst (intsV ((now.take j).filter (c.there (c.thing y).comes))))) ⟨same_new hB, upd_same⟩ (fun j H'' _ q => q.1.seq (SqL.of hD2)) ?_ ?_⟩
      · rintro j x H'' hx ⟨sm, hb⟩
        obtain ⟨z, hz, rfl⟩ := intsV_at hx
        obtain ⟨r, hr1, hrt, hrr⟩ := row z (List.mem_of_getElem? hz)
        obtain ⟨dx2, hpt2⟩ := (hA2.same sm) r (List.mem_of_getElem? hr1)
        have more : (now.take (j + 1)).filter (c.there (c.thing y).comes) = (now.take j).filter (c.there (c.thing y).comes) ++ if c.there (c.thing y).comes z = true then [z] else [] := by
          rw [take_more hz, List.filter_append]
          congr 1
          cases e : c.there (c.thing y).comes z <;> simp [e]
        refine ⟨rfl, ?_⟩
        refine ⟨_, rfl, _, rfl, L, refs ps, _, _, rfl, rfl, sm.seq hS2, atI_nat hrr, r.1, dx2, _, rfl, hpt2, tF_no _, _, rfl, r.1, r.2, (c.thing y).comes, rfl, ⟨dx2, hpt2⟩, fun H3 s3 => ⟨_, rfl, ?_⟩⟩
        have et : there (c.thing y).comes r.2 = c.there (c.thing y).comes z := by
          rw [hrt]
          rfl
        rw [et]
        cases e : c.there (c.thing y).comes z with
        | true =>
          refine if_true_of rfl ?_
          rw [e, if_pos rfl] at more
          refine ⟨_, rfl, _, s3 _ _ hb, ?_, same_at hB (sm.trans s3), ?_⟩
          · rw [intsV_len]
            exact small1000 (Nat.le_trans (List.length_filter_le _ _) (Nat.le_trans (List.length_take_le' _ _) (by omega)))
          · rw [upd_same, more, ← intsV_more]
        | false =>
          refine if_false_of rfl ?_
          rw [e, if_neg Bool.false_ne_true, List.append_nil] at more
          rw [more]
          exact ⟨sm.trans s3, s3 _ _ hb⟩
      · rintro H3 ⟨sm, hb⟩
        rw [intsV_len, List.take_length] at hb
        have hp3 := sm _ _ hp2
        have hD3 := sm _ _ hD2
        have eN3 : ExtN H H3 := eN2.trans (ExtN.of sm)
        have T3 := T2.ext sm
        -- if len(there) > places
        refine ⟨_, rfl, B, _, rfl, .inl (SqL.of hb), _, rfl, _, _, rfl, rfl, _, rfl, ?_⟩
        rw [intsV_len]
        by_cases hc : c.places < (now.filter (c.there (c.thing y).comes)).length
        · refine if_true_of (decide_eq_true (by rw [← en]; exact Int.ofNat_lt.mpr hc)) ?_
          refine ⟨_, rfl, .inl ⟨rfl, _, SqL.of hD3⟩, ?_⟩
          refine ⟨_, rfl, _, rfl, L, B, ps, now.filter (c.there (c.thing y).comes), rfl, SqL.of hb, ExtN.seq eN3 hS, ExtN.all eN3 hA, by omega, by omega, fun z hz => ltn z ((List.mem_filter.mp hz).1), T3, fun m H4 hm hle eN4 T4 => ?_⟩
          have hlast : c.last (now.filter (c.there (c.thing y).comes)) = some m := last_is c hm fun j hj => by
            have z := hle j hj
            unfold PairLe at z
            rw [kOf_thing rfl ev, kOf_thing rfl ev] at z
            unfold later
            omega
          have hmn : m ∈ now := (List.mem_filter.mp hm).1
          have hmi : (m : Int) ∈ nats now := List.mem_map.mpr ⟨m, hmn, rfl⟩
          obtain ⟨j, hj1, hj2, hj3, hj4⟩ := first_at hmi
          have hD4 := eN4 _ _ hD3 fun _ z => nomatch z
          have hp4 := eN4 _ _ hp3 fun _ z => nomatch z
          refine ⟨D, nats now, (m : Int), j, rfl, rfl, hD4, hj2, hj3, ?_⟩
          rw [hj4, erase_nats ndn]
          refine ⟨_, _, _, rfl, extN_at hD (eN3.trans eN4), tabs_put T4 hD4, (upd_ne hpD).trans hp4, ?_⟩
          rw [upd_same, step]
          unfold come
          rw [en', if_pos hc, hlast]
          rfl
        · refine if_false_of (decide_eq_false (fun z => hc (by rw [en]; exact Int.ofNat_lt.mp z))) ?_
          refine ⟨_, _, _, rfl, eN3, T3, hp3, ?_⟩
          rw [hD3, step]
          unfold come
          rw [en', if_neg hc]
    · rintro σ H' ⟨v3, v4, v5, rfl, eN, Ti, hpi, hDi⟩
      rw [intsV_len, List.take_length] at hDi
      exact ⟨_, rfl, k D H' hD eN Ti hDi⟩
end
end Cup

namespace Cup
open PySem PySem.Spec PyProof.Rows L2 LamX NdefX
open Si89 (Thing Cupboard)
/-- how any call ends: as Ends, but that the tables of the lambdas may have grown -/
def EndsT (P1 P2 CT CC : Addr) (H : Hp) (a L : Addr) (c : Cupboard) (q : Si89.Call) (Q : VK) : Prop := ∀ (H' : Hp) (p L' : Addr), CupAt CT CC H' a L' (Si89.step c q).1 → (L' = L ∨ H L' = none) → (∀ o, H p = some o → ∃ ps, o = HO.tbl ps) → p ≠ L' →
  (∀ b o, H b = some o → (∀ ps, o ≠ .tbl ps) → b ≠ a → b ≠ L → H' b = some o) → Tabs (tabs P1 P2) H' → H' p = some (.lst ((ansL (Si89.step c q).2).map V.int)) → Q (.ref p) H'
theorem EndsT.ends {P1 P2 CT CC : Addr} {H : Hp} {a L : Addr} {c : Cupboard} {q : Si89.Call} {Q : VK} (k : EndsT P1 P2 CT CC H a L c q Q) (hT : Tabs (tabs P1 P2) H) (hC : CupAt CT CC H a L c) : Ends CT CC H a L c q Q := fun H' p L' h1 h2 h3 h4 fr h5 => by
  refine k H' p L' h1 h2 (fun o z => (by rw [h3] at z; cases z)) h4 (fun b o hb _ => fr b o hb) (tabs_frame hT fun b o hb z => fr b o hb (fun e => ?_) fun e => ?_) h5
  · obtain ⟨ps, hR⟩ := hC
    obtain ⟨dx, ho⟩ := hR.obj
    rw [e, ho] at hb
    cases hb
    rcases z with ⟨_, z⟩ | ⟨_, z⟩ <;> cases z
  · obtain ⟨ps, hR⟩ := hC
    rw [e, hR.lst] at hb
    cases hb
    rcases z with ⟨_, z⟩ | ⟨_, z⟩ <;> cases z
theorem CupR.ext {CT CC : Addr} {H H' : Hp} {a L : Addr} {c : Cupboard} {ps : Rows} (h : CupR CT CC H a L c ps) (s : ExtN H H') : CupR CT CC H' a L c ps :=
  let ⟨dx, e⟩ := h.obj
  ⟨⟨dx, s _ _ e (fun _ z => nomatch z)⟩, s _ _ h.lst (fun _ z => nomatch z), ExtN.all s h.all, h.eq, h.few⟩
section
variable {P : Program} {w : World} {K : PySem.W.Frag} {mg : Str → Option Value} {base : Heap} {CT CC P1 P2 c1 c2 : Addr}

/-! ### plain -/
def spPlain (CT CC P1 P2 : Addr) : Sp := fun vs H Q _ => ∃ (a L : Addr) (c : Cupboard), vs = [.ref a] ∧ CupAt CT CC H a L c ∧ Tabs (tabs P1 P2) H ∧ EndsT P1 P2 CT CC H a L c .plain Q
theorem scPl : FnScope ["self", "kept", "things", "number"] ["self"] (defScope sPlain) := ⟨rfl, rfl, rfl, by decide +kernel, rfl, by decide +kernel, by decide +kernel⟩
theorem ok_plain {f fK fP fT fF fW fO fL fA : Addr} {fd dK dP dT dF dW dO dL dA : FuncData} (F : Fun K "plain" "Cupboard.plain" sPlain f fd) (T : Txt K mg CT CC) (G : Help K mg CT CC fP fT fF fW fO dP dT dF dW dO) (Z : Lines K mg base c1 c2 P1 P2 fL fA dL dA)
    (FK : Fun K "kept_as_they_come" "kept_as_they_come" sKept fK dK) (bK : Binds K dK ["things", "places"] []) (mK : mg "kept_as_they_come" = some (.ref fK)) : FnOk P w K mg base CX0 3 f fd ["self"] (spPlain CT CC P1 P2) := by
  have GK : FnOk P w K mg base CX0 2 fK dK ["things", "places"] (spKept K CT P1 P2) := ok_kept FK T G.MP Z
  have GW : FnOk P w K mg base CX0 1 fW dW ["things"] (spWorth K CT) := ok_worth G.FW T
  have GO : FnOk P w K mg base CX0 1 fO dO ["self", "chosen"] (spOf CT CC) := ok_of G.FO T
  refine F.ok scPl (fun vs H Q E h => ?_) (fun cdv A outer s H vs Q E hr h => ⟨_,
    have hr1 : Room 1 _ := hr.mono (by decide)
    pss_cons (ps_set (i := 1) scPl.nd rfl (Or.inl rfl) (pe_callB (cr_sum rfl) (by rfl) T.sum (by decide +kernel) (pa_cons
      (pe_lc (own := [("number", 3)]) (g := gName 3) (tt := tYes) (te := tOp (rI CPow fun i j => .int (i * 2 ^ j.toNat)) (tC (.int 1)) (tVar 3)) (by rfl) scPl.nd (pi_list (pe_call GK hr (by rfl) mK FK.kp bK .nil pass0 (pa_cons (pe_fld (pv 0) rfl) (pa_cons (pe_fld (pv 0) rfl) pa_nil))))
        (blkOk_by (own := [("number", 3)]) (N := ["self", "kept", "things", "number"]) (sc := defScope sPlain) (by decide +kernel)) (fun _ _ _ _ _ => pg_name (i := 3) scPl.nd rfl (Or.inl rfl)) (fun _ _ _ _ _ => pts_nil) (fun _ _ _ _ _ => pe_op op_shl pe_int (pv 3))) pa_nil)))
    (pss_cons (ps_set (i := 2) scPl.nd rfl (Or.inl rfl) (pe_meth (pv 0) T.clC G.mO GO hr1 G.bO .nil pass0 (pa_cons (pv 1) pa_nil)))
    (pss_one (ps_ret (pe_lst (pa_cons (pe_callB call_len_seq (by rfl) T.len PySem.boot_len (pa_cons (pv 2) pa_nil)) (pa_cons (pe_call GW hr1 (by rfl) G.mW G.FW.kp G.bW .nil pass0 (pa_cons (pv 2) pa_nil)) (pa_cons (pv 1) pa_nil))))))), ?_⟩)
  · obtain ⟨a, L, c, rfl, _⟩ := h
    rfl
  · obtain ⟨a, L, c, rfl, ⟨ps, hC⟩, hT, k⟩ := h
    obtain ⟨dx, ho⟩ := hC.obj
    refine ⟨_, rfl, a, CC, dx, _, _, rfl, ho, T.clC, T.nTh, cF_things _ _, _, rfl, a, CC, dx, _, _, rfl, ho, T.clC, T.nPl, cF_places _ _, L, ps, c.places, rfl, SqL.of hC.lst, hC.all, hC.few, hT, fun D H1 hD eN1 T1 hD1 => ?_⟩
    have ek : (⟨c.places, vals ps⟩ : Cupboard) = c := by rw [hC.eq]
    rw [ek] at hD1
    refine ⟨D, rfl, ⟨_, SqL.of hD1⟩, fun B hB => lc_list (K := K) (a := D) (xs := intsV (keptOf c)) (fun j H'' => Same H1 H'' ∧ H'' B = some (.lst (intsV (((keptOf c).take j).map fun i => 2 ^ i)))) ⟨same_new hB, upd_same⟩ (fun j H'' _ q => q.1.seq (SqL.of hD1)) ?_ ?_⟩
    · rintro j x H'' hx ⟨sm, hb⟩
      obtain ⟨z, hz, rfl⟩ := intsV_at hx
      have hz9 : z < 9 := by
        have := kept_lt c z (List.mem_of_getElem? hz)
        have := hC.few
        rw [hC.count] at this
        omega
      refine ⟨rfl, ?_⟩
      refine ⟨_, rfl, _, _, rfl, rfl, ⟨Int.natCast_nonneg _, by omega, by decide⟩, _, hb, ?_, same_at hB sm, ?_⟩
      · rw [intsV_len, List.length_map]
        have e1 := (keptOf_sub c).length_le
        rw [(line_perm c).length_eq, List.length_range] at e1
        have := hC.few
        rw [hC.count] at this
        exact small1000 (Nat.le_trans (List.length_take_le' _ _) (by omega))
      · rw [upd_same, take_more hz, List.map_append]
        have e2 : V.int ((1 : Int) * 2 ^ ((z : Nat) : Int).toNat) = V.int ((2 ^ z : Nat) : Int) := by
          rw [Int.toNat_natCast, shl_one]
        show some (HO.lst (intsV (((keptOf c).take j).map fun i => 2 ^ i) ++ [V.int ((1 : Int) * 2 ^ ((z : Nat) : Int).toNat)])) = _
        rw [e2]
        exact congrArg (fun q => some (HO.lst q)) (intsV_more _ _).symm
    · rintro H2 ⟨sm, hb⟩
      rw [intsV_len, List.take_length] at hb
      refine ⟨B, nats ((keptOf c).map fun i => 2 ^ i), rfl, SqL.of hb, ?_⟩
      rw [nats_sum, ← plain_kept]
      have e2 : ExtN H H2 := eN1.trans (ExtN.of sm)
      have hC2 := hC.ext e2
      obtain ⟨dx2, ho2⟩ := hC2.obj
      refine ⟨_, rfl, a, dx2, _, rfl, ho2, cF_no (by decide +kernel) (by decide +kernel), _, rfl, a, L, c, ps, c.plain, rfl, hC2, fun H3 S sm3 _ hS => ?_⟩
      have hC3 := hC2.same sm3
      have hA3 : AllAt CT H3 (sel c.plain ps) := fun q hq => hC3.all q (sel_sub hq)
      have hv : vals (sel c.plain ps) = pick c c.plain := sel_pick hC.eq c.plain
      have el : ((refs (sel c.plain ps)).length : Int) = (c.size c.plain : Nat) := by
        rw [refs_len, hv, size_pick]
      refine ⟨_, rfl, S, refs (sel c.plain ps), rfl, .inl (SqL.of hS), ?_⟩
      rw [el]
      refine ⟨_, rfl, S, sel c.plain ps, rfl, SqL.of hS, hA3, Nat.le_trans (sel_len _ _) hC.few, fun H4 sm4 => ?_⟩
      rw [hv, worth_pick]
      refine ⟨_, rfl, (by show 3 ≤ sizeLine; decide), fun p hp => ?_⟩
      have e4 : ExtN H H4 := e2.trans (ExtN.of (sm3.trans sm4))
      have hp0 : ∀ o, H p = some o → ∃ ps, o = HO.tbl ps := fun o q => by
        by_cases z : ∃ ps, o = HO.tbl ps
        · exact z
        · have := e4 p o q fun ps e => z ⟨ps, e⟩
          rw [hp] at this
          cases this
      have sm5 : Same H4 (upd H4 p (.lst [.int (c.size c.plain : Nat), .int (c.worth c.plain : Nat), .int (c.plain : Nat)])) := same_new hp
      have e5 := e4.trans (ExtN.of sm5)
      have hC5 := hC.ext e5
      refine k _ p L ⟨ps, hC5⟩ (.inl rfl) hp0 (fun z => ?_) (fun b o hb n _ _ => e5 b o hb n) (T1.ext ((sm.trans sm3).trans (sm4.trans sm5))) upd_same
      have h4 := (hC.ext e4).lst
      rw [← z, hp] at h4
      cases h4

/-! ### enough -/
def spEnough (CT CC : Addr) : Sp := fun vs H Q _ => ∃ (a L : Addr) (c : Cupboard), vs = [.ref a] ∧ CupAt CT CC H a L c ∧ Ends CT CC H a L c .enough Q
theorem scEn : FnScope ["self", "thing"] ["self"] (defScope sEnough) := ⟨rfl, rfl, rfl, by decide +kernel, rfl, by decide +kernel, by decide +kernel⟩
/-- how many take a place on the days on which the first ones come -/
def takenR (ps : Rows) (qs : Rows) : List Nat := qs.map fun q => takenOf (vals ps) q.2.comes
theorem ok_enough {f fP fT fF fW fO : Addr} {fd dP dT dF dW dO : FuncData} (F : Fun K "enough" "Cupboard.enough" sEnough f fd) (T : Txt K mg CT CC) (G : Help K mg CT CC fP fT fF fW fO dP dT dF dW dO) : FnOk P w K mg base CX0 3 f fd ["self"] (spEnough CT CC) := by
  have GT : FnOk P w K mg base CX0 2 fT dT ["things", "day"] (spTaken K CT) := ok_taken G.FT T G.MP
  refine F.ok scEn (fun vs H Q E h => ?_) (fun cdv A outer s H vs Q E hr h => ⟨_,
    pss_one (ps_ret (pe_lst (pa_cons (pe_callBK (cr_maxD rfl hr) (by rfl) T.max (by decide +kernel) (pa_cons
      (pe_lc (own := [("thing", 1)]) (g := gName 1) (tt := tYes) (te := tCall (spTaken K CT) [] E0 (tCons (tFld K (tVar 0) "things") (tCons (tFld K (tVar 1) "comes") tNil))) (by rfl) scEn.nd (pi_list (pe_fld (pv 0) rfl))
        (blkOk_by (own := [("thing", 1)]) (N := ["self", "thing"]) (sc := defScope sEnough) (by decide +kernel)) (fun _ _ _ _ _ => pg_name (i := 1) scEn.nd rfl (Or.inl rfl)) (fun _ _ _ _ _ => pts_nil)
        (fun _ _ _ _ _ => pe_call GT hr (by rfl) G.mT G.FT.kp G.bT .nil pass0 (pa_cons (pe_fld (pv 0) rfl) (pa_cons (pe_fld (pv 1) rfl) pa_nil)))) pa_nil) (pk_cons pe_int pk_nil)) pa_nil))), ?_⟩)
  · obtain ⟨a, L, c, rfl, _⟩ := h
    rfl
  · obtain ⟨a, L, c, rfl, ⟨ps, hC⟩, k⟩ := h
    obtain ⟨dx, ho⟩ := hC.obj
    have e9 : (refs ps).length = ps.length := List.length_map _
    refine ⟨_, rfl, a, CC, dx, _, _, rfl, ho, T.clC, T.nTh, cF_things _ _, L, rfl, ⟨_, SqL.of hC.lst⟩, fun B hB => lc_list (K := K) (a := L) (xs := refs ps) (fun j H' => Same H H' ∧ H' B = some (.lst (intsV (takenR ps (ps.take j))))) ⟨same_new hB, upd_same⟩ (fun j H' _ q => q.1.seq (SqL.of hC.lst)) ?_ ?_⟩
    · rintro j x H' hx ⟨sm, hb⟩
      obtain ⟨p, hp, rfl⟩ := refs_at hx
      have hC1 := hC.same sm
      obtain ⟨dx1, ho1⟩ := hC1.obj
      obtain ⟨dxp, hpt⟩ := hC1.all p (List.mem_of_getElem? hp)
      refine ⟨rfl, ?_⟩
      refine ⟨_, rfl, a, CC, dx1, _, _, rfl, ho1, T.clC, T.nTh, cF_things _ _, _, rfl, p.1, CT, dxp, _, _, rfl, hpt, T.clT, T.nCo, tF_comes _, L, ps, p.2.comes, rfl, SqL.of hC1.lst, hC1.all, by have := hC.few; omega, fun H2 s2 => ?_⟩
      refine ⟨_, s2 _ _ hb, ?_, same_at hB (sm.trans s2), ?_⟩
      · rw [intsV_len]
        unfold takenR
        rw [List.length_map]
        have := hC.few
        exact small1000 (Nat.le_trans (List.length_take_le' _ _) (by omega))
      · rw [upd_same, take_more hp]
        unfold takenR
        rw [List.map_append]
        exact congrArg (fun q => some (HO.lst q)) (intsV_more _ _).symm
    · rintro H' ⟨sm, hb⟩
      rw [e9, List.take_length] at hb
      refine ⟨B, nats (takenR ps ps), rfl, rfl, SqL.of hb, fun m hm => ⟨(by show 1 ≤ sizeLine; decide), fun p hp => ?_⟩⟩
      have hm2 : m = (c.enough : Nat) := by
        have tk : ∀ t ∈ c.things, takenOf c.things t.comes ∈ takenR ps ps := fun t ht => by
          rw [← hC.eq] at ht
          obtain ⟨q, hq, rfl⟩ := List.mem_map.mp ht
          unfold takenR
          exact List.mem_map.mpr ⟨q, hq, by rw [hC.eq]⟩
        have kt : ∀ x ∈ takenR ps ps, ∃ t ∈ c.things, x = takenOf c.things t.comes := fun x hx => by
          unfold takenR at hx
          obtain ⟨q, hq, rfl⟩ := List.mem_map.mp hx
          exact ⟨q.2, by rw [← hC.eq]; exact List.mem_map.mpr ⟨q, hq, rfl⟩, by rw [hC.eq]⟩
        rcases hm with ⟨h1, rfl⟩ | ⟨h1, h2⟩
        · have h0 : takenR ps ps = [] := List.map_eq_nil_iff.mp h1
          have e : (0 : Nat) = c.enough := enough_is c (fun t ht => by
            have := tk t ht
            rw [h0] at this
            cases this) (.inl rfl)
          rw [← e]
          rfl
        · obtain ⟨x, hx, rfl⟩ := List.mem_map.mp h1
          have e : x = c.enough := enough_is c (fun t ht => Int.ofNat_le.mp (h2 _ (List.mem_map.mpr ⟨_, tk t ht, rfl⟩))) (.inr (kt x hx))
          rw [e]
      rw [hm2]
      exact k.stay hC sm hp (r := Si89.ok ((c.enough : Nat) : Int)) rfl rfl
end
end Cup

namespace Cup
open PySem PySem.Spec PyProof.Rows L2 LamX NdefX
open Si89 (Thing Cupboard)
section
variable {P : Program} {w : World} {K : PySem.W.Frag} {mg : Str → Option Value} {base : Heap} {CT CC P1 P2 c1 c2 : Addr}

/-- the cupboard's calls, where they stand -/
structure Calls (K : PySem.W.Frag) (mg : Str → Option Value) (CT CC : Addr) (fI fB fN fC fS fM fQ fG fK : Addr) (dI dB dN dC dS dM dQ dG dK : FuncData) : Prop where
  MT : Mk K CT fI
  FI : Fun K "__init__" "Thing.__init__" sTInit fI dI
  bI : Binds K dI ["self", "comes", "asked_for", "worth"] []
  FB : Fun K "begins" "Cupboard.begins" sBegins fB dB
  bB : Binds K dB ["self", "places"] []
  mB : Meth K CC "begins" fB
  FN : Fun K "thing" "Cupboard.thing" sThing fN dN
  bN : Binds K dN ["self", "comes", "asked_for", "worth"] []
  mN : Meth K CC "thing" fN
  FC : Fun K "check" "Cupboard.check" sCheck fC dC
  bC : Binds K dC ["self", "chosen"] []
  mC : Meth K CC "check" fC
  FS : Fun K "best" "Cupboard.best" sBest fS dS
  bS : Binds K dS ["self"] []
  mS : Meth K CC "best" fS
  FM : Fun K "most" "Cupboard.most" sMost fM dM
  bM : Binds K dM ["self"] []
  mM : Meth K CC "most" fM
  FQ : Fun K "plain" "Cupboard.plain" sPlain fQ dQ
  bQ : Binds K dQ ["self"] []
  mQ : Meth K CC "plain" fQ
  FG : Fun K "enough" "Cupboard.enough" sEnough fG dG
  bG : Binds K dG ["self"] []
  mG : Meth K CC "enough" fG
  FK : Fun K "kept_as_they_come" "kept_as_they_come" sKept fK dK
  bK : Binds K dK ["things", "places"] []
  mK : mg "kept_as_they_come" = some (.ref fK)

/-! ### answer_call -/
def spCall (K : PySem.W.Frag) (CT CC P1 P2 : Addr) : Sp := fun vs H Q _ => ∃ (a L N : Addr) (c : Cupboard) (p : Int) (ns : List Int) (q : Si89.Call), vs = [.ref a, .int p, .ref N] ∧ CupAt CT CC H a L c ∧ SqL K H N (ns.map V.int) ∧ Reads p ns q ∧ Tabs (tabs P1 P2) H ∧ EndsT P1 P2 CT CC H a L c q Q
theorem scCl : FnScope ["cupboard", "call", "numbers"] ["cupboard", "call", "numbers"] (defScope sCall) := ⟨rfl, rfl, rfl, by decide +kernel, rfl, by decide +kernel, by decide +kernel⟩
theorem ok_call {f fP fT fF fW fO fE fA fB2 fL fZ fI fB fN fC fS fM fQ fG fK : Addr} {fd dP dT dF dW dO dE dA dB2 dL dZ dI dB dN dC dS dM dQ dG dK : FuncData} (F : Fun K "answer_call" "answer_call" sCall f fd) (T : Txt K mg CT CC) (G : Help K mg CT CC fP fT fF fW fO dP dT dF dW dO) (R : Ranks K mg CC fE fA fB2 dE dA dB2)
    (Z : Lines K mg base c1 c2 P1 P2 fL fZ dL dZ) (C : Calls K mg CT CC fI fB fN fC fS fM fQ fG fK dI dB dN dC dS dM dQ dG dK) : FnOk P w K mg base CX0 6 f fd ["cupboard", "call", "numbers"] (spCall K CT CC P1 P2) := by
  have GB : FnOk P w K mg base CX0 1 fB dB ["self", "places"] (spBegins CT CC) := ok_begins C.FB T
  have GN : FnOk P w K mg base CX0 3 fN dN ["self", "comes", "asked_for", "worth"] (spThing CT CC) := ok_thing C.FN T C.MT C.FI C.bI
  have GC : FnOk P w K mg base CX0 4 fC dC ["self", "chosen"] (spCheck CT CC) := ok_check C.FC T G
  have GS : FnOk P w K mg base CX0 5 fS dS ["self"] (spBest CT CC) := ok_best C.FS T G R
  have GM : FnOk P w K mg base CX0 5 fM dM ["self"] (spMost CT CC) := ok_most C.FM T G R
  have GQ : FnOk P w K mg base CX0 3 fQ dQ ["self"] (spPlain CT CC P1 P2) := ok_plain C.FQ T G Z C.FK C.bK C.mK
  have GG : FnOk P w K mg base CX0 3 fG dG ["self"] (spEnough CT CC) := ok_enough C.FG T G
  obtain ⟨t0, g0⟩ := T.beg
  obtain ⟨t1, g1⟩ := T.thg
  obtain ⟨t2, g2⟩ := T.chk
  obtain ⟨t3, g3⟩ := T.bst
  obtain ⟨t4, g4⟩ := T.mst
  obtain ⟨t5, g5⟩ := T.pln
  refine F.ok scCl (fun vs H Q E h => ?_) (fun cdv A outer s H vs Q E hr h => ⟨_,
    have hr1 : Room 1 _ := hr.mono (by decide)
    have hr3 : Room 3 _ := hr.mono (by decide)
    have hr4 : Room 4 _ := hr.mono (by decide)
    pss_cons (ps_if (pt_cmpR op_eq (pv 1) (pe_glob (v := .int 0) rfl g0 ⟨_, rfl⟩) (nomark _)) (pss_one (ps_ret (pe_meth (pv 0) T.clC C.mB GB hr1 C.bB .nil pass0 (pa_cons (pe_ix ix_list (pv 2) pe_int (fun _ _ => rfl)) pa_nil)))) pss_nil)
    (pss_cons (ps_if (pt_cmpR op_eq (pv 1) (pe_glob (v := .int 1) rfl g1 ⟨_, rfl⟩) (nomark _)) (pss_one (ps_ret (pe_meth (pv 0) T.clC C.mN GN hr3 C.bN .nil pass0
      (pa_cons (pe_ix ix_list (pv 2) pe_int (fun _ _ => rfl)) (pa_cons (pe_ix ix_list (pv 2) pe_int (fun _ _ => rfl)) (pa_cons (pe_ix ix_list (pv 2) pe_int (fun _ _ => rfl)) pa_nil)))))) pss_nil)
    (pss_cons (ps_if (pt_cmpR op_eq (pv 1) (pe_glob (v := .int 2) rfl g2 ⟨_, rfl⟩) (nomark _)) (pss_one (ps_ret (pe_meth (pv 0) T.clC C.mC GC hr4 C.bC .nil pass0 (pa_cons (pe_ix ix_list (pv 2) pe_int (fun _ _ => rfl)) pa_nil)))) pss_nil)
    (pss_cons (ps_if (pt_cmpR op_eq (pv 1) (pe_glob (v := .int 3) rfl g3 ⟨_, rfl⟩) (nomark _)) (pss_one (ps_ret (pe_meth0 (pv 0) T.clC C.mS GS hr C.bS .nil pass0))) pss_nil)
    (pss_cons (ps_if (pt_cmpR op_eq (pv 1) (pe_glob (v := .int 4) rfl g4 ⟨_, rfl⟩) (nomark _)) (pss_one (ps_ret (pe_meth0 (pv 0) T.clC C.mM GM hr C.bM .nil pass0))) pss_nil)
    (pss_cons (ps_if (pt_cmpR op_eq (pv 1) (pe_glob (v := .int 5) rfl g5 ⟨_, rfl⟩) (nomark _)) (pss_one (ps_ret (pe_meth0 (pv 0) T.clC C.mQ GQ hr3 C.bQ .nil pass0))) pss_nil)
    (pss_one (ps_ret (pe_meth0 (pv 0) T.clC C.mG GG hr3 C.bG .nil pass0)))))))), ?_⟩)
  · obtain ⟨a, L, N, c, p, ns, q, rfl, _⟩ := h
    rfl
  · obtain ⟨a, L, N, c, p, ns, q, rfl, hC, hN, hq, hT, k⟩ := h
    have ke := k.ends hT hC
    obtain ⟨ps, hR⟩ := id hC
    obtain ⟨dx, ho⟩ := hR.obj
    cases hq with
    | begins n =>
      refine ⟨_, rfl, rfl, _, rfl, if_true_of rfl ?_⟩
      exact ⟨_, rfl, a, dx, _, rfl, ho, cF_no (by decide +kernel) (by decide +kernel), _, rfl, N, _, _, _, rfl, rfl, hN, rfl, a, L, c, n, rfl, hC, ke⟩
    | thing t =>
      refine ⟨_, rfl, rfl, _, rfl, if_false_of rfl ?_⟩
      refine ⟨_, rfl, rfl, _, rfl, if_true_of rfl ?_⟩
      exact ⟨_, rfl, a, dx, _, rfl, ho, cF_no (by decide +kernel) (by decide +kernel), _, rfl, N, _, _, _, rfl, rfl, hN, rfl, _, rfl, N, _, _, _, rfl, rfl, hN, rfl, _, rfl, N, _, _, _, rfl, rfl, hN, rfl, a, L, c, t, rfl, hC, ke⟩
    | check n =>
      refine ⟨_, rfl, rfl, _, rfl, if_false_of rfl ?_⟩
      refine ⟨_, rfl, rfl, _, rfl, if_false_of rfl ?_⟩
      refine ⟨_, rfl, rfl, _, rfl, if_true_of rfl ?_⟩
      exact ⟨_, rfl, a, dx, _, rfl, ho, cF_no (by decide +kernel) (by decide +kernel), _, rfl, N, _, _, _, rfl, rfl, hN, rfl, a, L, c, n, rfl, hC, ke⟩
    | best =>
      refine ⟨_, rfl, rfl, _, rfl, if_false_of rfl ?_⟩
      refine ⟨_, rfl, rfl, _, rfl, if_false_of rfl ?_⟩
      refine ⟨_, rfl, rfl, _, rfl, if_false_of rfl ?_⟩
      refine ⟨_, rfl, rfl, _, rfl, if_true_of rfl ?_⟩
      exact ⟨_, rfl, a, dx, _, rfl, ho, cF_no (by decide +kernel) (by decide +kernel), a, L, c, rfl, hC, ke⟩
    | most =>
      refine ⟨_, rfl, rfl, _, rfl, if_false_of rfl ?_⟩
      refine ⟨_, rfl, rfl, _, rfl, if_false_of rfl ?_⟩
      refine ⟨_, rfl, rfl, _, rfl, if_false_of rfl ?_⟩
      refine ⟨_, rfl, rfl, _, rfl, if_false_of rfl ?_⟩
      refine ⟨_, rfl, rfl, _, rfl, if_true_of rfl ?_⟩
      exact ⟨_, rfl, a, dx, _, rfl, ho, cF_no (by decide +kernel) (by decide +kernel), a, L, c, rfl, hC, ke⟩
    | plain =>
      refine ⟨_, rfl, rfl, _, rfl, if_false_of rfl ?_⟩
      refine ⟨_, rfl, rfl, _, rfl, if_false_of rfl ?_⟩
      refine ⟨_, rfl, rfl, _, rfl, if_false_of rfl ?_⟩
      refine ⟨_, rfl, rfl, _, rfl, if_false_of rfl ?_⟩
      refine ⟨_, rfl, rfl, _, rfl, if_false_of rfl ?_⟩
      refine ⟨_, rfl, rfl, _, rfl, if_true_of rfl ?_⟩
      exact ⟨_, rfl, a, dx, _, rfl, ho, cF_no (by decide +kernel) (by decide +kernel), a, L, c, rfl, hC, hT, k⟩
    | enough =>
      refine ⟨_, rfl, rfl, _, rfl, if_false_of rfl ?_⟩
      refine ⟨_, rfl, rfl, _, rfl, if_false_of rfl ?_⟩
      refine ⟨_, rfl, rfl, _, rfl, if_false_of rfl ?_⟩
      refine ⟨_, rfl, rfl, _, rfl, if_false_of rfl ?_⟩
      refine ⟨_, rfl, rfl, _, rfl, if_false_of rfl ?_⟩
      refine ⟨_, rfl, rfl, _, rfl, if_false_of rfl ?_⟩
      exact ⟨_, rfl, a, dx, _, rfl, ho, cF_no (by decide +kernel) (by decide +kernel), a, L, c, rfl, hC, ke⟩
end
end Cup

namespace Cup
open PySem PySem.Spec PyProof.Rows L2 LamX NdefX
open Si89 (Thing Cupboard)

/-- another list changes: the cupboard lies as it lay -/
theorem CupAt.skip {CT CC : Addr} {H : Hp} {a L : Addr} {c : Cupboard} (h : CupAt CT CC H a L c) {D : Addr} {xs : List V} (hD : H D = some (.lst xs)) (hL : D ≠ L) (o : HO) : CupAt CT CC (upd H D o) a L c := by
  obtain ⟨ps, hC⟩ := h
  obtain ⟨dx, ho⟩ := hC.obj
  have n1 : ∀ {b : Addr} {C d : Addr} {fs : List (Str × V)}, H b = some (.ins C d fs) → b ≠ D := fun e z => by
    rw [z, hD] at e
    cases e
  refine ⟨ps, ⟨dx, (upd_ne (n1 ho)).trans ho⟩, (upd_ne (Ne.symm hL)).trans hC.lst, fun q hq => ?_, hC.eq, hC.few⟩
  obtain ⟨d, e⟩ := hC.all q hq
  exact ⟨d, (upd_ne (n1 e)).trans e⟩
theorem Parse.next {l : List Int} {cs : List Si89.Call} (h : Parse l cs) (hl : l ≠ []) : ∃ p ns rest q cs', l = p :: (ns ++ rest) ∧ cs = q :: cs' ∧ Reads p ns q ∧ Parse rest cs' := by
  cases h with
  | nil => exact absurd rfl hl
  | cons h1 h2 => exact ⟨_, _, _, _, _, rfl, rfl, h1, h2⟩
theorem Parse.done {cs : List Si89.Call} (h : Parse [] cs) : cs = [] := by
  cases h
  rfl
/-- the slice behind a call's number -/
theorem cut_ints {l : List Int} {i : Nat} {p : Int} {ns rest : List Int} (h : l.drop i = p :: (ns ++ rest)) : cutV (l.map V.int) (some ((i : Int) + 1)) (some ((i : Int) + 1 + (ns.length : Int))) = ns.map V.int := by
  have hl : l.length = i + (1 + (ns.length + rest.length)) := by
    have := congrArg List.length h
    rw [List.length_drop, List.length_cons, List.length_append] at this
    omega
  have e1 : ((i : Int) + 1) = ((i + 1 : Nat) : Int) := by omega
  have e2 : ((i : Int) + 1 + (ns.length : Int)) = ((i + 1 + ns.length : Nat) : Int) := by omega
  unfold cutV
  rw [e2, e1, HT.sIx_nat, HT.sIx_nat, List.length_map, Nat.min_eq_left (by omega), Nat.min_eq_left (by omega), ← List.map_drop, ← List.map_take]
  have e3 : l.drop (i + 1) = ns ++ rest := by
    rw [← List.drop_drop, h]
    rfl
  rw [e3, show i + 1 + ns.length - (i + 1) = ns.length by omega, List.take_left' rfl]

section
variable {P : Program} {w : World} {K : PySem.W.Frag} {mg : Str → Option Value} {base : Heap} {CT CC P1 P2 c1 c2 : Addr}
theorem behind_at {p : Int} {ns : List Int} {q : Si89.Call} (h : Reads p ns q) : atI [V.int 1, .int 3, .int 1, .int 0, .int 0, .int 0, .int 0] p = some (.int (ns.length : Nat)) := by
  cases h
  · rfl
  · rfl
  · rfl
  · rfl
  · rfl
  · rfl
  · rfl

/-! ### answers -/
def Off (H : Hp) (L : Addr) : Prop := ∀ o, H L = some o → ∃ ps, o = HO.tbl ps
theorem Off.of {H H' : Hp} {L : Addr} (e : ExtN H H') (h : H' L = none) : Off H L := fun o q => by
  by_cases z : ∃ ps, o = HO.tbl ps
  · exact z
  · have := e L o q fun ps w => z ⟨ps, w⟩
    rw [h] at this
    cases this
theorem Off.ne {H : Hp} {L b : Addr} {o : HO} (h : Off H L) (e : H b = some o) (n : ∀ ps, o ≠ HO.tbl ps) : b ≠ L := fun z => by
  rw [z] at e
  obtain ⟨ps, q⟩ := h o e
  exact n ps q
def spAns (K : PySem.W.Frag) (P1 P2 : Addr) : Sp := fun vs H Q _ => ∃ (A : Addr) (l : List Int), vs = [.ref A] ∧ SqL K H A (l.map V.int) ∧ PySi89.answers_asked l = true ∧ Tabs (tabs P1 P2) H ∧
  ∀ (H' : Hp) (p : Addr), H' p = some (.lst ((PySi89.answers l).map V.int)) → Q (.ref p) H'
theorem scAn : FnScope ["calls", "cupboard", "told", "at", "call", "behind", "answer"] ["calls"] (defScope sAns) := ⟨rfl, rfl, rfl, by decide +kernel, rfl, by decide +kernel, by decide +kernel⟩
theorem ok_ans {f fX fJ fP fT fF fW fO fE fA fB2 fL fZ fI fB fN fC fS fM fQ fG fK : Addr} {fd dX dJ dP dT dF dW dO dE dA dB2 dL dZ dI dB dN dC dS dM dQ dG dK : FuncData} (F : Fun K "answers" "answers" sAns f fd) (T : Txt K mg CT CC) (G : Help K mg CT CC fP fT fF fW fO dP dT dF dW dO) (R : Ranks K mg CC fE fA fB2 dE dA dB2)
    (Z : Lines K mg base c1 c2 P1 P2 fL fZ dL dZ) (C : Calls K mg CT CC fI fB fN fC fS fM fQ fG fK dI dB dN dC dS dM dQ dG dK) (FJ : Fun K "answer_call" "answer_call" sCall fJ dJ) (bJ : Binds K dJ ["cupboard", "call", "numbers"] []) (mJ : mg "answer_call" = some (.ref fJ))
    (MX : Mk K CC fX) (FX : Fun K "__init__" "Cupboard.__init__" sCInit fX dX) (bX : Binds K dX ["self"] []) : FnOk P w K mg base CX0 7 f fd ["calls"] (spAns K P1 P2) := by
  have GJ : FnOk P w K mg base CX0 6 fJ dJ ["cupboard", "call", "numbers"] (spCall K CT CC P1 P2) := ok_call FJ T G R Z C
  have GX : FnOk P w K mg base CX0 1 fX dX ["self"] (spCInit CT CC) := ok_cinit FX T
  obtain ⟨N, gN, hN⟩ := T.nb
  refine F.ok scAn (fun vs H Q E h => ?_) (fun cdv A outer s H vs Q E hr h => ⟨_,
    have hr2 : Room 2 _ := hr.mono (by decide)
    pss_cons (ps_set (i := 1) scAn.nd rfl (Or.inl rfl) (pe_make0 MX GX hr2 (by rfl) T.gC bX .nil pass0))
    (pss_cons (ps_set (i := 2) scAn.nd rfl (Or.inl rfl) (pe_lst pa_nil))
    (pss_cons (ps_set (i := 3) scAn.nd rfl (Or.inl rfl) pe_int)
    (pss_cons (ps_while PassesOwn.never (pt_cmpR op_lt (pv 3) (pe_callB call_len_seq (by rfl) T.len PySem.boot_len (pa_cons (pv 0) pa_nil)) (nomark _))
      (pss_cons (ps_set (i := 4) scAn.nd rfl (Or.inl rfl) (pe_ix ix_list (pv 0) (pv 3) (fun _ _ => rfl)))
      (pss_cons (ps_set (i := 5) scAn.nd rfl (Or.inl rfl) (pe_op op_add (pe_op op_add (pv 3) pe_int) (pe_ix ix_tup (pe_glob (v := .ref N) rfl gN rfl) (pv 4) (fun _ _ => rfl))))
      (pss_cons (ps_set (i := 6) scAn.nd rfl (Or.inl rfl) (pe_call GJ hr (by rfl) mJ FJ.kp bJ .nil pass0 (pa_cons (pv 1) (pa_cons (pv 4) (pa_cons (pe_slice sl_list (pv 0) (po_some (pe_op op_add (pv 3) pe_int)) (po_some (pv 5))) pa_nil)))))
      (pss_cons (ps_expr (pe_bm PySem.F.plainAttrs_list PySem.F.slot_list_append PySem.F.type_list_append mt_append (pv 2) (pa_cons (pe_callB call_len_seq (by rfl) T.len PySem.boot_len (pa_cons (pv 6) pa_nil)) pa_nil)))
      (pss_cons (ps_expr (pe_bm PySem.F.plainAttrs_list PySem.F.slot_list_extend PySem.F.type_list_extend mt_extend (pv 2) (pa_cons (pv 6) pa_nil)))
      (pss_one (ps_set (i := 3) scAn.nd rfl (Or.inl rfl) (pv 5)))))))))
    (pss_one (ps_ret (pv 2)))))), ?_⟩)
  · obtain ⟨A, l, rfl, _⟩ := h
    rfl
  · obtain ⟨A, l, rfl, hA, hask, hT, k⟩ := h
    obtain ⟨cs0, hp0, h60, ha0⟩ := asked_read hask
    -- cupboard = Cupboard()
    intro x dx nx nd ne
    refine ⟨x, dx, rfl, upd_same, fun H1 L0 hC0 hL0 kp => ⟨rfl, ?_⟩⟩
    have s1 : Same H H1 := Same.made nx nd kp
    have hL00 : H L0 = none := by
      cases q : H L0 with
      | none => rfl
      | some o =>
        rw [upd_ne (ne_of_none q nx), upd_ne (ne_of_none q nd), q] at hL0
        cases hL0
    -- told = []
    refine ⟨(by show 0 ≤ sizeLine; decide), fun D hD => ?_⟩
    have hDH : H D = none := s1.free hD
    have s2 : Same H (upd H1 D (.lst [])) := s1.trans (same_new hD)
    obtain ⟨ps0, hR0⟩ := hC0
    have hDL : D ≠ L0 := fun e => by
      have := hR0.lst
      rw [← e, hD] at this
      cases this
    refine ⟨fun m σ H' => ∃ (i : Nat) (c : Cupboard) (L : Addr) (cs : List Si89.Call) (done : List Int) (v4 v5 v6 : Option V), m = l.length - i ∧ σ = [some (.ref A), some (.ref x), some (.ref D), some (.int (i : Nat)), v4, v5, v6] ∧
      i ≤ l.length ∧ Parse (l.drop i) cs ∧ CupAt CT CC H' x L c ∧ ExtN H H' ∧ Tabs (tabs P1 P2) H' ∧ H' D = some (.lst (done.map V.int)) ∧ D ≠ L ∧ Off H L ∧ done ++ played c cs = PySi89.answers l ∧ done.length + 5 * cs.length ≤ 300,
      ⟨l.length, 0, Si89.init, L0, cs0, [], none, none, none, rfl, rfl, Nat.zero_le _, hp0, ⟨ps0, hR0.same (same_new hD)⟩, ExtN.of s2, hT.ext s2, upd_same, hDL, (fun o z => (by rw [hL00] at z; cases z)), ha0.symm, (by show 0 + 5 * cs0.length ≤ 300; omega)⟩, ?_⟩
    rintro m σ H' ⟨i, c, L, cs, done, v4, v5, v6, rfl, rfl, hi, hp, hC, sm, Ti, hd, hne, hLn, heq, hsz⟩
    refine ⟨_, rfl, _, rfl, A, _, rfl, .inl (ExtN.seq sm hA), _, _, rfl, rfl, _, rfl, ?_⟩
    have el : (l.map V.int).length = l.length := List.length_map _
    rw [el]
    by_cases c1 : i < l.length
    · refine if_true_of (decide_eq_true (Int.ofNat_lt.mpr c1)) ?_
      obtain ⟨p, ns, rest, q, cs', hdrop, rfl, hq, hp'⟩ := hp.next (by
        intro z
        have := congrArg List.length z
        rw [List.length_drop] at this
        simp at this
        omega)
      refine ⟨_, fun _ _ z => z, ?_⟩
      have hat : (l.map V.int)[i]? = some (.int p) := by
        rw [List.getElem?_map, show l[i]? = some p by
          have := congrArg (fun z : List Int => z[0]?) hdrop
          simpa using this]
        rfl
      have hcut := cut_ints hdrop
      have hln : l.length = i + 1 + ns.length + rest.length := by
        have := congrArg List.length hdrop
        rw [List.length_drop, List.length_cons, List.length_append] at this
        omega
      -- call = calls[at]; behind = ..
      refine ⟨_, rfl, _, rfl, A, _, _, _, rfl, rfl, ExtN.seq sm hA, atI_nat hat, ?_⟩
      refine ⟨_, rfl, _, _, rfl, rfl, _, rfl, N, _, _, _, rfl, rfl, hN _, behind_at hq, _, _, rfl, rfl, ?_⟩
      -- answer = answer_call(..)
      refine ⟨_, rfl, _, rfl, _, rfl, _, rfl, _, _, rfl, rfl, _, rfl, _, rfl, _, rfl, A, _, rfl, ExtN.seq sm hA, fun S hS => ?_⟩
      rw [hcut]
      have s3 : Same H' (upd H' S (.lst (ns.map V.int))) := same_new hS
      obtain ⟨ps, hR⟩ := hC
      refine ⟨x, L, S, c, p, ns, q, rfl, ⟨ps, hR.same s3⟩, SqL.of upd_same, hq, Ti.ext s3, fun H2 p2 L2 hC2 hL2 hp2 hpL2 fr T2 hans => ?_⟩
      have hd3 := s3 _ _ hd
      have hDx : D ≠ x := fun z => by
        obtain ⟨dx3, ho3⟩ := hR.obj
        rw [← z, hd] at ho3
        cases ho3
      have hd4 : H2 D = some (.lst (done.map V.int)) := fr _ _ hd3 (fun _ z => nomatch z) hDx hne
      have hDL2 : D ≠ L2 := fun z => by
        rcases hL2 with e | e
        · exact hne (z.trans e)
        · rw [← z, hd3] at e
          cases e
      have e3 : ExtN H (upd H' S (.lst (ns.map V.int))) := sm.trans (ExtN.of s3)
      have hLn2 : Off H L2 := by
        rcases hL2 with e | e
        · rw [e]
          exact hLn
        · exact Off.of e3 e
      have sm4 : ExtN H H2 := fun b o hb n => fr b o (e3 b o hb n) n (ne_of_none hb nx) (hLn.ne hb n)
      have hpD : p2 ≠ D := fun z => by
        obtain ⟨_, q⟩ := hp2 _ (by rw [z]; exact hd3)
        cases q
      have l4 := ans_len c q
      -- told.append(len(answer))
      refine ⟨_, rfl, .inl ⟨rfl, _, SqL.of hd4⟩, _, rfl, p2, _, rfl, .inl (SqL.of hans), D, _, _, rfl, rfl, hd4, ?_, ?_⟩
      · rw [List.length_map]
        exact small1000 (by omega)
      -- told.extend(answer)
      refine ⟨_, rfl, .inl ⟨rfl, _, SqL.of upd_same⟩, _, rfl, D, p2, _, _, rfl, rfl, upd_same, (upd_ne hpD).trans hans, ?_, ?_⟩
      · rw [List.length_append, List.length_map, List.length_map]
        exact Nat.le_of_lt (small1000 (by show done.length + 1 + _ ≤ 1000; omega))
      -- at = behind
      refine ⟨_, rfl, ?_⟩
      refine ⟨l.length - (i + 1 + ns.length), by omega, i + 1 + ns.length, (Si89.step c q).1, L2, cs', done ++ (((ansL (Si89.step c q).2).length : Nat) : Int) :: ansL (Si89.step c q).2, some (.int p), some (.int ((i : Int) + 1 + (ns.length : Int))), some (.ref p2), rfl, ?_, by omega, ?_, ?_, ?_, tabs_put (tabs_put T2 hd4) upd_same, ?_, hDL2, hLn2, ?_, ?_⟩
      · rfl
      · have : l.drop (i + 1 + ns.length) = rest := by
          rw [show i + 1 + ns.length = i + (1 + ns.length) by omega, ← List.drop_drop, hdrop, show 1 + ns.length = ns.length + 1 by omega, List.drop_succ_cons, List.drop_left' rfl]
        rw [this]
        exact hp'
      · exact (hC2.skip hd4 hDL2 _).skip upd_same hDL2 _
      · exact extN_at hDH (extN_at hDH sm4)
      · rw [upd_same, List.map_append, List.map_cons, List.append_assoc, List.length_map]
        rfl
      · rw [List.append_assoc]
        exact heq
      · rw [List.length_append, List.length_cons]
        rw [List.length_cons] at hsz
        omega
    · refine if_false_of (decide_eq_false (fun z => c1 (Int.ofNat_lt.mp z))) ?_
      have e : i = l.length := by omega
      subst e
      rw [List.drop_length] at hp
      cases hp.done
      have e2 : done = PySi89.answers l := by
        rw [← heq]
        exact (List.append_nil _).symm
      refine ⟨_, rfl, k H' D ?_⟩
      rw [hd, e2]
end
end Cup

namespace Cup
open PySem PySem.Spec PyProof.Rows L2 LamX NdefX
open PySem.W (WData Codec OpenSpec WellAll ReadsW)
/-! ### the end: the answer's call from the top, the lambdas' tables empty -/
/-- what is tracked at the beginning: what is handed in, the tables -/
def withT (H : Hp) (P1 P2 : Addr) : Hp := fun b => if b = P1 ∨ b = P2 then some (.tbl #[]) else H b
theorem withT_tab {H : Hp} {P1 P2 b : Addr} (h : b = P1 ∨ b = P2) : withT H P1 P2 b = some (.tbl #[]) := if_pos h
theorem withT_else {H : Hp} {P1 P2 b : Addr} (h : ¬ (b = P1 ∨ b = P2)) : withT H P1 P2 b = H b := if_neg h
theorem withT_same {H : Hp} {P1 P2 : Addr} (n1 : H P1 = none) (n2 : H P2 = none) : Same H (withT H P1 P2) := fun b o e => by
  rw [withT_else]
  · exact e
  · rintro (z | z)
    · rw [z, n1] at e
      cases e
    · rw [z, n2] at e
      cases e
theorem no_tab {K : PySem.W.Frag} {h : Heap} {A : List Addr} (ar : ∀ a ∈ A, ArgOb h A a) {b : Addr} {o : Obj} (e : h.get? b = some o) (n : ∀ vs k, o.data ≠ .seq vs k) : argH K h A b = none := by
  cases q : argH K h A b with
  | none => rfl
  | some u =>
    obtain ⟨_, vs, _, _, ⟨e2, _⟩ | ⟨e2, _⟩⟩ := argH_is ar q
    · rw [e2] at e
      cases e
      exact (n _ _ rfl).elim
    · rw [e2] at e
      cases e
      exact (n _ _ rfl).elim
theorem call_top {P : Program} {w : World} {K : PySem.W.Frag} {mg mb : Str → Option Value} {k : Nat} {fa c1 c2 P1 P2 : Addr} {fd : FuncData} {ps : List Str} {sp : Sp} {s : Shared} {vals : List Value} {ds : List WData} {R : PySem.W.WRecords} {cl : Str → Option Addr} {d0 : WData}
    (KX : K.In s.heap) (hns : s.heap.Ns mainGlobals mg) (hb : s.heap.Ns builtinsNs mb) (hbb : ∀ x : Str, x ≠ "__name__" → mb x = bootBuiltins x) (hlim : s.heap.NoLimit) (hg : s.gens = #[])
    (hbm : ∃ (bm : Addr) (ob : Obj), mg "__builtins__" = some (.ref bm) ∧ bm ≠ builtinsNs ∧ s.heap.get? bm = some ob ∧ ob.cls = .type "module" ∧ ob.dict = some builtinsNs ∧ ob.data = .plain)
    (C1 : PySem.W.CodeHd s.heap c1 P1) (C2 : PySem.W.CodeHd s.heap c2 P2) (t1 : s.heap.get? P1 = some (PySem.W.tabObj #[])) (t2 : s.heap.get? P2 = some (PySem.W.tabObj #[])) (noT : PySem.W.noTabs K = true)
    (hwl : WellAll w.params s.heap vals ds) (hpl : plWs ds = true) (hwt : ∀ d ∈ ds, d.weight ≤ 1048576) (hr : Room k callerA)
    (F : ∀ base : Heap, K.In base → base.Ns mainGlobals mg → TabB base mg c1 P1 → TabB base mg c2 P2 → FnOk P w K mg base CX0 k fa fd ps sp) (hbind : ∀ (s : Shared) (us : List Value), us.length = ps.length → BindsTo s fd ⟨us, []⟩ (ps.zip us)) (hlen : ds.length = ps.length)
    (hsp : ∀ (H H' : Hp) (xs : List V), DwAll K H xs ds → Same H H' → Tabs (tabs P1 P2) H' → sp xs H' (fun v H2 => Dw K H2 v d0) fun _ _ _ => False) :
    codeAny (model P w) callerA (.call (.ref fa) ⟨vals, []⟩) (fun r s' => ∃ u as, r = .ok (.ret u) ∧ ReadsW R cl s'.heap u d0 as ∧ OldK s.heap s'.heap ∧ s'.os = s.os ∧ AllBare s'.gens) s := by
  obtain ⟨A, ho, ar⟩ := area_all ds vals hwl hpl hwt
  have hS := dw_all KX ar ds vals hwl hpl ho
  have hV := vals_toV ho
  have hok0 : HOk P w (argH K s.heap A) s.heap := argH_ok ar
  have none1 : argH K s.heap A P1 = none := no_tab ar t1 fun _ _ z => by cases z
  have none2 : argH K s.heap A P2 = none := no_tab ar t2 fun _ _ z => by cases z
  have sm := withT_same none1 none2
  have istab : ∀ b, b = P1 ∨ b = P2 → s.heap.get? b = some (PySem.W.tabObj #[]) := fun b z => by
    rcases z with z | z <;> rw [z]
    · exact t1
    · exact t2
  have free : ∀ {b : Addr} {o : Obj}, s.heap.get? b = some o → (∀ vs k, o.data ≠ .seq vs k) → o.data ≠ .fields #[] → withT (argH K s.heap A) P1 P2 b = none := fun {b o} e z1 z2 => by
    rw [withT_else]
    · exact no_tab ar e z1
    · intro z
      rw [istab b z] at e
      cases e
      exact z2 rfl
  have inK : ∀ b o, K.lookup b = some o → withT (argH K s.heap A) P1 P2 b = none := fun b o e => by
    rw [withT_else]
    · cases q : argH K s.heap A b with
      | none => rfl
      | some u =>
        have z := (argH_is ar q).1
        rw [z] at e
        cases e
    · intro z
      have e2 := KX b o e
      rw [istab b z] at e2
      cases e2
      have q := List.all_eq_true.mp noT (b, _) (PySem.W.mem_of_lookupK e)
      exact absurd (show false = true from q) Bool.false_ne_true
  have hok : HOk P w (withT (argH K s.heap A) P1 P2) s.heap := fun b u e => by
    by_cases z : b = P1 ∨ b = P2
    · rw [withT_tab z] at e
      cases e
      exact istab b z
    · rw [withT_else z] at e
      exact (hok0 b u e).stay (fun _ _ _ q => q) (fun c q => sm _ _ q) fun c xs q => sm _ _ q
  have only : ∀ b u, withT (argH K s.heap A) P1 P2 b = some u → (b = P1 ∨ b = P2) ∨ ∃ o v, u = .frz o v := fun b u e => by
    by_cases z : b = P1 ∨ b = P2
    · exact .inl z
    · rw [withT_else z] at e
      rcases argH_only ar b with q | ⟨o, v, q⟩
      · rw [q] at e
        cases e
      · rw [q] at e
        cases e
        exact .inr ⟨o, v, rfl⟩
  have hT : Tabs (tabs P1 P2) (withT (argH K s.heap A) P1 P2) := fun p hp => by
    rcases List.mem_cons.mp hp with rfl | hp
    · exact TabS.nil (withT_tab (.inl rfl))
    · rcases List.mem_singleton.mp hp with rfl
      exact TabS.nil (withT_tab (.inr rfl))
  have spn := hsp _ _ _ hS sm hT
  have tab1 : withT (argH K s.heap A) P1 P2 P1 = some (.tbl #[]) := withT_tab (.inl rfl)
  have tab2 : withT (argH K s.heap A) P1 P2 P2 = some (.tbl #[]) := withT_tab (.inr rfl)
  clear hT hS sm hok0 none1 none2
  generalize withT (argH K s.heap A) P1 P2 = H at *
  have base_of : ∀ {b : Addr} {o : Obj}, s.heap.get? b = some o → H b = none → (hidT s.heap H).get? b = some o := fun e n => hidT_get e n
  have nsOf : ∀ {b : Addr} {m : Str → Option Value}, s.heap.Ns b m → (hidT s.heap H).Ns b m := fun {b m} ⟨o, es, ep, e, d, r⟩ => ⟨o, es, ep, base_of e (free e (fun vs k z => by rw [d] at z; cases z) fun z => by rw [d] at z; cases z), d, r⟩
  have hKb : K.In (hidT s.heap H) := fun b o e => base_of (KX b o e) (inK b o e)
  have hM : L2.Mod K mg (hidT s.heap H) := ⟨hKb, nsOf hns, ⟨mb, nsOf hb, hbb⟩, let ⟨mc, h1, h2⟩ := hlim; ⟨mc, nsOf h1, h2⟩⟩
  have TB : ∀ (c Pt : Addr), PySem.W.CodeHd s.heap c Pt → s.heap.get? Pt = some (PySem.W.tabObj #[]) → TabB (hidT s.heap H) mg c Pt := fun c Pt C tt => by
    refine ⟨?_, ?_, fun z => ?_⟩
    · obtain ⟨o, us, file, tf, flags, tg, inF, text, t3, e1, r1, r2, r3, r4⟩ := C
      refine ⟨o, us, file, tf, flags, tg, inF, text, t3, base_of e1 (free e1 (fun vs n z => ?_) fun z => ?_), r1, r2, r3, r4⟩
      · rw [r2] at z
        cases z
      · rw [r2] at z
        cases z
        simp at r3
    · obtain ⟨bm, ob, b1, b2, b3, b4, b5, b6⟩ := hbm
      refine ⟨bm, ob, b1, b2, fun q => ?_, fun q => ?_, base_of b3 (free b3 (fun vs n z => ?_) fun z => ?_), b4, b5, b6⟩
      · obtain ⟨o, es, ep, e, hd, _⟩ := hns
        rw [q, e] at b3
        cases b3
        rw [hd] at b6
        cases b6
      · rw [q, tt] at b3
        cases b3
        cases b6
      · rw [b6] at z
        cases z
      · rw [b6] at z
        cases z
    · obtain ⟨o, es, ep, e, hd, _⟩ := hns
      rw [z, tt] at e
      cases e
      cases hd
  have e0 : Env0 P w K mg (hidT s.heap H) callerA [] s H := ⟨rfl, hM, fun b o e => of_hidT e, Nat.le_of_eq (hidT_size _ _), trivial, fun b hb => absurd (show b ∈ ([] : List Addr) from hb) (by simp), hok, .of_eq hg⟩
  have hl : vals.length = ps.length := by
    rw [wellAll_len hwl]
    exact hlen
  refine codeAny_mono ((F _ hKb (nsOf hns) (TB _ _ C1 t1) (TB _ _ C2 t2)).run callerA [] s H ⟨vals, []⟩ vals (vals.map toV) _ _ hr e0 (hbind s vals hl) hV spn) fun r s' x => ?_
  cases r with
  | error e => exact False.elim x
  | ok fl =>
    cases fl with
    | next => exact False.elim x
    | brk => exact False.elim x
    | cont => exact False.elim x
    | ret u =>
      obtain ⟨v, H', os, bare, un, hok', r', q⟩ := x
      have kept : ∀ b o, ¬ (b = P1 ∨ b = P2) → s.heap.get? b = some o → s'.heap.get? b = some o := fun b o nt e => by
        cases q2 : H b with
        | none => exact un.keep b o e q2 (fun z => absurd (show b ∈ ([] : List Addr) from z) (by simp)) (by simp)
        | some u2 =>
          rcases only b u2 q2 with z | ⟨ob, u3, rfl⟩
          · exact absurd z nt
          · obtain ⟨e1, _⟩ := hok b _ q2
            obtain ⟨e2, _⟩ := hok' b _ (un.frzs b ob _ q2)
            rw [e] at e1
            cases e1
            exact e2
      have grown : ∀ b, (b = P1 ∨ b = P2) → ∃ more : Array Value, s'.heap.get? b = some (PySem.W.tabObj more) := fun b z => by
        have z2 : H b = some (.tbl #[]) := by
          rcases z with z | z <;> rw [z]
          · exact tab1
          · exact tab2
        obtain ⟨more, z3⟩ := un.tbls b #[] z2
        exact ⟨_, hok' b _ z3⟩
      have KX' : K.In s'.heap := fun b o e => kept b o (fun z => by
        have e2 := KX b o e
        rw [istab b z] at e2
        cases e2
        have q := List.all_eq_true.mp noT (b, _) (PySem.W.mem_of_lookupK e)
        exact absurd (show false = true from q) Bool.false_ne_true) (KX b o e)
      obtain ⟨as, hrd⟩ := Dw.reads (R := R) (cl := cl) hok' KX' d0 v u q r'
      refine ⟨u, as, rfl, hrd, ⟨fun b o e => ?_, fun b o e => ?_⟩, os, bare⟩
      · by_cases z : b = P1 ∨ b = P2
        · obtain ⟨more, hm⟩ := grown b z
          have it : isCodeTable s.heap b := by
            rcases z with z | z <;> rw [z]
            · exact (C1.tab t1).isCodeTable
            · exact (C2.tab t2).isCodeTable
          have e2 := istab b z
          rw [e] at e2
          cases e2
          exact .inr (.inl ⟨it, rfl, #[], more, rfl, by rw [Array.empty_append]; exact hm⟩)
        · exact .inl (kept b o z e)
      · by_cases z : b = P1 ∨ b = P2
        · obtain ⟨more, hm⟩ := grown b z
          exact ⟨_, hm⟩
        · exact ⟨o, kept b o z e⟩
theorem walk_top {r : OpenSpec} {k : Nat} {q : Program} {loose : List Str} {XP : (Str → Option Value) → Heap → Prop} {YP : World → Heap → Prop} {d : DefRec} {K : Params → PySem.W.Frag} {ps : List Str} {sp : PySem.W.Frag → Addr → Addr → Sp} {x1 x2 : Str}
    (hwell : r.wellSaid = true) (hlen : r.args.length = ps.length) (hr : Room k callerA) (hY : ∀ (w : World) (h : Heap), YP w h → (K w.params).In h) (h1 : ((recsOf q).find? (fun e => e.name == x1)).isSome = true) (h2 : ((recsOf q).find? (fun e => e.name == x2)).isSome = true)
    (F : ∀ (w : World) (mg : Str → Option Value) (fa : Addr) (h : Heap), YP w h → (K w.params).In h → h.Ns mainGlobals mg → mg d.name = some (.ref fa) → ∃ (c1 P1 c2 P2 : Addr) (fd : FuncData), PySem.W.tabIn (K w.params) x1 = some (c1, P1) ∧ PySem.W.tabIn (K w.params) x2 = some (c2, P2) ∧ PySem.W.noTabs (K w.params) = true ∧
      (∀ (s : Shared) (us : List Value), us.length = ps.length → BindsTo s fd ⟨us, []⟩ (ps.zip us)) ∧
      ∀ base : Heap, (K w.params).In base → base.Ns mainGlobals mg → TabB base mg c1 P1 → TabB base mg c2 P2 → FnOk r.prog w (K w.params) mg base CX0 k fa fd ps (sp (K w.params) P1 P2))
    (hsp : ∀ (K : PySem.W.Frag) (P1 P2 : Addr) (H H' : Hp) (xs : List V) (a : Codec.denoteAll r.args), Codec.withinAll r.args a = true → Codec.app r.args r.asked a = true → DwAll K H xs (Codec.encAll r.args a) → Same H H' → Tabs (tabs P1 P2) H' →
      sp K P1 P2 xs H' (fun v H2 => Dw K H2 v (r.ret.enc (Codec.app r.args r.f a))) fun _ _ _ => False) :
    PySem.W.WalkOS q loose XP YP r d [] (fun f vs => PySem.call f vs) := by
  intro w s0 s mg mb G Y fa o pm cd doc dV kV ho hd hcd hD hmg hg args vals as hpre hlay hrd hwl hlo
  obtain ⟨a, e1, e2⟩ := PySem.W.os_pre_some hpre
  obtain ⟨rfl, hwi⟩ := Codec.encAll_of_decAll r.args args a e1
  have KX := hY w _ Y
  obtain ⟨d1, h1⟩ := Option.isSome_iff_exists.mp h1
  obtain ⟨d2, h2⟩ := Option.isSome_iff_exists.mp h2
  obtain ⟨c1, P1, c2, P2, fd, t1, t2, nt, hb, hF⟩ := F w mg fa _ Y KX G.T.g hmg
  obtain ⟨C1, p1⟩ := PySem.W.tab_of G.T KX h1 t1
  obtain ⟨C2, p2⟩ := PySem.W.tab_of G.T KX h2 t2
  refine PySem.W.enter_call (codeAny_mono (call_top (R := []) (cl := classAt s0.heap) (d0 := r.ret.enc (Codec.app r.args r.f a)) KX G.T.g G.T.b G.T.builtins G.T.nolimit hg G.T.bmain C1 C2 p1 p2 nt hwl (pl_encAll _ _) (layable_weight hlay) hr hF hb (by rw [encAll_len]; exact hlen)
    fun H H' xs hS sm hT => hsp _ P1 P2 H H' xs a hwi e2 hS sm hT) fun r' s' hq => ?_)
  obtain ⟨u, as', rfl, z1, z2, z3, z4⟩ := hq
  exact ⟨.inl ⟨u, _, as', rfl, fun _ => rfl, z1, (OpenSpec.post_iff hwell hwi _ _).mpr rfl, fun z => Bool.noConfusion (show false = true from z)⟩, z2, z3, z4⟩
end Cup

namespace Cup
open PySem PySem.Spec PyProof.Rows L2
theorem tab_mk {K : PySem.W.Frag} {x : Str} {f c P : Addr} {oc u : Value} {od v : Option Addr} {fd : FuncData} {sl sl2 : Array (Option Value)} {vs : Array Value} (a : PySem.W.nsIn K mainGlobals x = some (some (.ref f))) (l : K.lookup f = some ⟨oc, od, .func fd, sl⟩) (e : fd.code = .ref c)
    (g : K.lookup c = some ⟨u, v, .fields vs, sl2⟩) (p : vs[11]? = some (.ref P)) : PySem.W.tabIn K x = some (c, P) := by
  unfold PySem.W.tabIn
  rw [a]
  dsimp only
  rw [l]
  dsimp only
  rw [e]
  dsimp only
  rw [g]
  dsimp only
  rw [p]
theorem all_mk {P : Program} {w : World} {K : PySem.W.Frag} {h : Heap} {mg : Str → Option Value} {fa CT CC N c1 c2 P1 P2 : Addr} {fI fP fT fF fW fV fY fL fZ fK fX fO fB fN fC fE fS fM fQ fG fJ fA : Addr} (X : K.In h) (G : h.Ns mainGlobals mg) (hfa : mg "answers" = some (.ref fa))
    {od0 : Option Addr} {sl0 : Array (Option Value)} {n0 : Nat} {q0 q1 q2 q3 q4 q5 q6 t_mp t_mt t_ld t_mw t_beg t_thg t_chk t_bst t_mst t_pln : Tok}
    {u1 u2 : Value} {v1 v2 : Option Addr} {vs1 vs2 : Array Value} {w1 w2 : Array (Option Value)}
    {odI anI : Option Addr} {slI : Array (Option Value)} {ocI kVI dcI pmI cdI ctI : Value}
    {odP anP : Option Addr} {slP : Array (Option Value)} {ocP kVP dcP pmP cdP ctP : Value}
    {odT anT : Option Addr} {slT : Array (Option Value)} {ocT kVT dcT pmT cdT ctT : Value}
    {odF anF : Option Addr} {slF : Array (Option Value)} {ocF kVF dcF pmF cdF ctF : Value}
    {odW anW : Option Addr} {slW : Array (Option Value)} {ocW kVW dcW pmW cdW ctW : Value}
    {odV anV : Option Addr} {slV : Array (Option Value)} {ocV kVV dcV pmV cdV ctV : Value}
    {odY anY : Option Addr} {slY : Array (Option Value)} {ocY kVY dcY pmY cdY ctY : Value}
    {odL anL : Option Addr} {slL : Array (Option Value)} {ocL kVL dcL pmL cdL ctL : Value}
    {odZ anZ : Option Addr} {slZ : Array (Option Value)} {ocZ kVZ dcZ pmZ cdZ ctZ : Value}
    {odK anK : Option Addr} {slK : Array (Option Value)} {ocK kVK dcK pmK cdK ctK : Value}
    {odX anX : Option Addr} {slX : Array (Option Value)} {ocX kVX dcX pmX cdX ctX : Value}
    {odO anO : Option Addr} {slO : Array (Option Value)} {ocO kVO dcO pmO cdO ctO : Value}
    {odB anB : Option Addr} {slB : Array (Option Value)} {ocB kVB dcB pmB cdB ctB : Value}
    {odN anN : Option Addr} {slN : Array (Option Value)} {ocN kVN dcN pmN cdN ctN : Value}
    {odC anC : Option Addr} {slC : Array (Option Value)} {ocC kVC dcC pmC cdC ctC : Value}
    {odE anE : Option Addr} {slE : Array (Option Value)} {ocE kVE dcE pmE cdE ctE : Value}
    {odS anS : Option Addr} {slS : Array (Option Value)} {ocS kVS dcS pmS cdS ctS : Value}
    {odM anM : Option Addr} {slM : Array (Option Value)} {ocM kVM dcM pmM cdM ctM : Value}
    {odQ anQ : Option Addr} {slQ : Array (Option Value)} {ocQ kVQ dcQ pmQ cdQ ctQ : Value}
    {odG anG : Option Addr} {slG : Array (Option Value)} {ocG kVG dcG pmG cdG ctG : Value}
    {odJ anJ : Option Addr} {slJ : Array (Option Value)} {ocJ kVJ dcJ pmJ cdJ ctJ : Value}
    {odA anA : Option Addr} {slA : Array (Option Value)} {ocA kVA dcA pmA cdA ctA : Value}
    (aT : PySem.W.nsIn K mainGlobals "Thing" = some (some (.ref CT)))
    (aC : PySem.W.nsIn K mainGlobals "Cupboard" = some (some (.ref CC)))
    (aI_ : PySem.W.findIn K (.ref CT) "__init__" = some (some (.ref fI)))
    (iI_ : PySem.W.isFn K (.ref fI) = true)
    (lI_ : K.lookup fI = some ⟨ocI, odI, .func (PySem.W.fnOf "__init__" "Thing.__init__" (defArgs sTInit) (defBody sTInit) (defScope sTInit) .none kVI dcI pmI anI cdI ctI), slI⟩)
    (cI_ : PySem.W.codeIn K cdI "Thing.__init__" = true)
    (kI_ : PySem.W.keepIn K (.ref fI) = true)
    (aP_ : PySem.W.findIn K (.ref CT) "takes_a_place" = some (some (.ref fP)))
    (iP_ : PySem.W.isFn K (.ref fP) = true)
    (lP_ : K.lookup fP = some ⟨ocP, odP, .func (PySem.W.fnOf "takes_a_place" "Thing.takes_a_place" (defArgs sTakes) (defBody sTakes) (defScope sTakes) .none kVP dcP pmP anP cdP ctP), slP⟩)
    (cP_ : PySem.W.codeIn K cdP "Thing.takes_a_place" = true)
    (kP_ : PySem.W.keepIn K (.ref fP) = true)
    (aT_ : PySem.W.nsIn K mainGlobals "places_taken" = some (some (.ref fT)))
    (lT_ : K.lookup fT = some ⟨ocT, odT, .func (PySem.W.fnOf "places_taken" "places_taken" (defArgs sTaken) (defBody sTaken) (defScope sTaken) .none kVT dcT pmT anT cdT ctT), slT⟩)
    (cT_ : PySem.W.codeIn K cdT "places_taken" = true)
    (kT_ : PySem.W.keepIn K (.ref fT) = true)
    (aF_ : PySem.W.nsIn K mainGlobals "first_overfull_day" = some (some (.ref fF)))
    (lF_ : K.lookup fF = some ⟨ocF, odF, .func (PySem.W.fnOf "first_overfull_day" "first_overfull_day" (defArgs sFirst) (defBody sFirst) (defScope sFirst) .none kVF dcF pmF anF cdF ctF), slF⟩)
    (cF_ : PySem.W.codeIn K cdF "first_overfull_day" = true)
    (kF_ : PySem.W.keepIn K (.ref fF) = true)
    (aW_ : PySem.W.nsIn K mainGlobals "worth_together" = some (some (.ref fW)))
    (lW_ : K.lookup fW = some ⟨ocW, odW, .func (PySem.W.fnOf "worth_together" "worth_together" (defArgs sWorth) (defBody sWorth) (defScope sWorth) .none kVW dcW pmW anW cdW ctW), slW⟩)
    (cW_ : PySem.W.codeIn K cdW "worth_together" = true)
    (kW_ : PySem.W.keepIn K (.ref fW) = true)
    (aV_ : PySem.W.nsIn K mainGlobals "worth_then_how_many" = some (some (.ref fV)))
    (lV_ : K.lookup fV = some ⟨ocV, odV, .func (PySem.W.fnOf "worth_then_how_many" "worth_then_how_many" (defArgs sRkW) (defBody sRkW) (defScope sRkW) .none kVV dcV pmV anV cdV ctV), slV⟩)
    (cV_ : PySem.W.codeIn K cdV "worth_then_how_many" = true)
    (kV_ : PySem.W.keepIn K (.ref fV) = true)
    (aY_ : PySem.W.nsIn K mainGlobals "how_many_then_worth" = some (some (.ref fY)))
    (lY_ : K.lookup fY = some ⟨ocY, odY, .func (PySem.W.fnOf "how_many_then_worth" "how_many_then_worth" (defArgs sRkS) (defBody sRkS) (defScope sRkS) .none kVY dcY pmY anY cdY ctY), slY⟩)
    (cY_ : PySem.W.codeIn K cdY "how_many_then_worth" = true)
    (kY_ : PySem.W.keepIn K (.ref fY) = true)
    (aL_ : PySem.W.nsIn K mainGlobals "numbers_as_they_come" = some (some (.ref fL)))
    (lL_ : K.lookup fL = some ⟨ocL, odL, .func (PySem.W.fnOf "numbers_as_they_come" "numbers_as_they_come" (defArgs sLine) (defBody sLine) (defScope sLine) .none kVL dcL pmL anL cdL ctL), slL⟩)
    (cL_ : PySem.W.codeIn K cdL "numbers_as_they_come" = true)
    (kL_ : PySem.W.keepIn K (.ref fL) = true)
    (aZ_ : PySem.W.nsIn K mainGlobals "asked_for_last" = some (some (.ref fZ)))
    (lZ_ : K.lookup fZ = some ⟨ocZ, odZ, .func (PySem.W.fnOf "asked_for_last" "asked_for_last" (defArgs sLast) (defBody sLast) (defScope sLast) .none kVZ dcZ pmZ anZ cdZ ctZ), slZ⟩)
    (cZ_ : PySem.W.codeIn K cdZ "asked_for_last" = true)
    (kZ_ : PySem.W.keepIn K (.ref fZ) = true)
    (aK_ : PySem.W.nsIn K mainGlobals "kept_as_they_come" = some (some (.ref fK)))
    (lK_ : K.lookup fK = some ⟨ocK, odK, .func (PySem.W.fnOf "kept_as_they_come" "kept_as_they_come" (defArgs sKept) (defBody sKept) (defScope sKept) .none kVK dcK pmK anK cdK ctK), slK⟩)
    (cK_ : PySem.W.codeIn K cdK "kept_as_they_come" = true)
    (kK_ : PySem.W.keepIn K (.ref fK) = true)
    (aX_ : PySem.W.findIn K (.ref CC) "__init__" = some (some (.ref fX)))
    (iX_ : PySem.W.isFn K (.ref fX) = true)
    (lX_ : K.lookup fX = some ⟨ocX, odX, .func (PySem.W.fnOf "__init__" "Cupboard.__init__" (defArgs sCInit) (defBody sCInit) (defScope sCInit) .none kVX dcX pmX anX cdX ctX), slX⟩)
    (cX_ : PySem.W.codeIn K cdX "Cupboard.__init__" = true)
    (kX_ : PySem.W.keepIn K (.ref fX) = true)
    (aO_ : PySem.W.findIn K (.ref CC) "things_of" = some (some (.ref fO)))
    (iO_ : PySem.W.isFn K (.ref fO) = true)
    (lO_ : K.lookup fO = some ⟨ocO, odO, .func (PySem.W.fnOf "things_of" "Cupboard.things_of" (defArgs sThingsOf) (defBody sThingsOf) (defScope sThingsOf) .none kVO dcO pmO anO cdO ctO), slO⟩)
    (cO_ : PySem.W.codeIn K cdO "Cupboard.things_of" = true)
    (kO_ : PySem.W.keepIn K (.ref fO) = true)
    (aB_ : PySem.W.findIn K (.ref CC) "begins" = some (some (.ref fB)))
    (iB_ : PySem.W.isFn K (.ref fB) = true)
    (lB_ : K.lookup fB = some ⟨ocB, odB, .func (PySem.W.fnOf "begins" "Cupboard.begins" (defArgs sBegins) (defBody sBegins) (defScope sBegins) .none kVB dcB pmB anB cdB ctB), slB⟩)
    (cB_ : PySem.W.codeIn K cdB "Cupboard.begins" = true)
    (kB_ : PySem.W.keepIn K (.ref fB) = true)
    (aN_ : PySem.W.findIn K (.ref CC) "thing" = some (some (.ref fN)))
    (iN_ : PySem.W.isFn K (.ref fN) = true)
    (lN_ : K.lookup fN = some ⟨ocN, odN, .func (PySem.W.fnOf "thing" "Cupboard.thing" (defArgs sThing) (defBody sThing) (defScope sThing) .none kVN dcN pmN anN cdN ctN), slN⟩)
    (cN_ : PySem.W.codeIn K cdN "Cupboard.thing" = true)
    (kN_ : PySem.W.keepIn K (.ref fN) = true)
    (aC_ : PySem.W.findIn K (.ref CC) "check" = some (some (.ref fC)))
    (iC_ : PySem.W.isFn K (.ref fC) = true)
    (lC_ : K.lookup fC = some ⟨ocC, odC, .func (PySem.W.fnOf "check" "Cupboard.check" (defArgs sCheck) (defBody sCheck) (defScope sCheck) .none kVC dcC pmC anC cdC ctC), slC⟩)
    (cC_ : PySem.W.codeIn K cdC "Cupboard.check" = true)
    (kC_ : PySem.W.keepIn K (.ref fC) = true)
    (aE_ : PySem.W.findIn K (.ref CC) "foremost" = some (some (.ref fE)))
    (iE_ : PySem.W.isFn K (.ref fE) = true)
    (lE_ : K.lookup fE = some ⟨ocE, odE, .func (PySem.W.fnOf "foremost" "Cupboard.foremost" (defArgs sFore) (defBody sFore) (defScope sFore) .none kVE dcE pmE anE cdE ctE), slE⟩)
    (cE_ : PySem.W.codeIn K cdE "Cupboard.foremost" = true)
    (kE_ : PySem.W.keepIn K (.ref fE) = true)
    (aS_ : PySem.W.findIn K (.ref CC) "best" = some (some (.ref fS)))
    (iS_ : PySem.W.isFn K (.ref fS) = true)
    (lS_ : K.lookup fS = some ⟨ocS, odS, .func (PySem.W.fnOf "best" "Cupboard.best" (defArgs sBest) (defBody sBest) (defScope sBest) .none kVS dcS pmS anS cdS ctS), slS⟩)
    (cS_ : PySem.W.codeIn K cdS "Cupboard.best" = true)
    (kS_ : PySem.W.keepIn K (.ref fS) = true)
    (aM_ : PySem.W.findIn K (.ref CC) "most" = some (some (.ref fM)))
    (iM_ : PySem.W.isFn K (.ref fM) = true)
    (lM_ : K.lookup fM = some ⟨ocM, odM, .func (PySem.W.fnOf "most" "Cupboard.most" (defArgs sMost) (defBody sMost) (defScope sMost) .none kVM dcM pmM anM cdM ctM), slM⟩)
    (cM_ : PySem.W.codeIn K cdM "Cupboard.most" = true)
    (kM_ : PySem.W.keepIn K (.ref fM) = true)
    (aQ_ : PySem.W.findIn K (.ref CC) "plain" = some (some (.ref fQ)))
    (iQ_ : PySem.W.isFn K (.ref fQ) = true)
    (lQ_ : K.lookup fQ = some ⟨ocQ, odQ, .func (PySem.W.fnOf "plain" "Cupboard.plain" (defArgs sPlain) (defBody sPlain) (defScope sPlain) .none kVQ dcQ pmQ anQ cdQ ctQ), slQ⟩)
    (cQ_ : PySem.W.codeIn K cdQ "Cupboard.plain" = true)
    (kQ_ : PySem.W.keepIn K (.ref fQ) = true)
    (aG_ : PySem.W.findIn K (.ref CC) "enough" = some (some (.ref fG)))
    (iG_ : PySem.W.isFn K (.ref fG) = true)
    (lG_ : K.lookup fG = some ⟨ocG, odG, .func (PySem.W.fnOf "enough" "Cupboard.enough" (defArgs sEnough) (defBody sEnough) (defScope sEnough) .none kVG dcG pmG anG cdG ctG), slG⟩)
    (cG_ : PySem.W.codeIn K cdG "Cupboard.enough" = true)
    (kG_ : PySem.W.keepIn K (.ref fG) = true)
    (aJ_ : PySem.W.nsIn K mainGlobals "answer_call" = some (some (.ref fJ)))
    (lJ_ : K.lookup fJ = some ⟨ocJ, odJ, .func (PySem.W.fnOf "answer_call" "answer_call" (defArgs sCall) (defBody sCall) (defScope sCall) .none kVJ dcJ pmJ anJ cdJ ctJ), slJ⟩)
    (cJ_ : PySem.W.codeIn K cdJ "answer_call" = true)
    (kJ_ : PySem.W.keepIn K (.ref fJ) = true)
    (aA_ : PySem.W.nsIn K mainGlobals "answers" = some (some (.ref fA)))
    (lA_ : K.lookup fA = some ⟨ocA, odA, .func (PySem.W.fnOf "answers" "answers" (defArgs sAns) (defBody sAns) (defScope sAns) .none kVA dcA pmA anA cdA ctA), slA⟩)
    (cA_ : PySem.W.codeIn K cdA "answers" = true)
    (kA_ : PySem.W.keepIn K (.ref fA) = true)
    (e1 : cdL = .ref c1)
    (lu1 : K.lookup c1 = some ⟨u1, v1, .fields vs1, w1⟩)
    (pt1 : vs1[11]? = some (.ref P1))
    (e2 : cdZ = .ref c2)
    (lu2 : K.lookup c2 = some ⟨u2, v2, .fields vs2, w2⟩)
    (pt2 : vs2[11]? = some (.ref P2))
    (ne : P1 ≠ P2)
    (nt : PySem.W.noTabs K = true)
    (pgCT : PySem.W.plainGet K CT Str.empty = true)
    (hdCT : PySem.W.hasDictIn K CT = true)
    (poCT : PySem.W.plainOver K CT = true)
    (saCT : PySem.W.findIn K (.ref CT) "__setattr__" = some (some (.builtin "object.__setattr__")))
    (mkCT : PySem.W.makesIn K CT = true)
    (kcCT : PySem.W.keepIn K (.ref CT) = true)
    (nCo : PySem.W.findIn K (.ref CT) "comes" = some none)
    (nAs : PySem.W.findIn K (.ref CT) "asked_for" = some none)
    (nWo : PySem.W.findIn K (.ref CT) "worth" = some none)
    (pgCC : PySem.W.plainGet K CC Str.empty = true)
    (hdCC : PySem.W.hasDictIn K CC = true)
    (poCC : PySem.W.plainOver K CC = true)
    (saCC : PySem.W.findIn K (.ref CC) "__setattr__" = some (some (.builtin "object.__setattr__")))
    (mkCC : PySem.W.makesIn K CC = true)
    (kcCC : PySem.W.keepIn K (.ref CC) = true)
    (nPl : PySem.W.findIn K (.ref CC) "places" = some none)
    (nTh : PySem.W.findIn K (.ref CC) "things" = some none)
    (g_mp : PySem.W.nsIn K mainGlobals "MOST_PLACES" = some (some (.int 5 t_mp)))
    (g_mt : PySem.W.nsIn K mainGlobals "MOST_THINGS" = some (some (.int 9 t_mt)))
    (g_ld : PySem.W.nsIn K mainGlobals "LAST_DAY" = some (some (.int 365 t_ld)))
    (g_mw : PySem.W.nsIn K mainGlobals "MOST_WORTH" = some (some (.int 1000 t_mw)))
    (g_beg : PySem.W.nsIn K mainGlobals "BEGINS" = some (some (.int 0 t_beg)))
    (g_thg : PySem.W.nsIn K mainGlobals "THING" = some (some (.int 1 t_thg)))
    (g_chk : PySem.W.nsIn K mainGlobals "CHECK" = some (some (.int 2 t_chk)))
    (g_bst : PySem.W.nsIn K mainGlobals "BEST" = some (some (.int 3 t_bst)))
    (g_mst : PySem.W.nsIn K mainGlobals "MOST" = some (some (.int 4 t_mst)))
    (g_pln : PySem.W.nsIn K mainGlobals "PLAIN" = some (some (.int 5 t_pln)))
    (z_len : PySem.W.nsIn K mainGlobals "len" = some none)
    (z_sorted : PySem.W.nsIn K mainGlobals "sorted" = some none)
    (z_sum : PySem.W.nsIn K mainGlobals "sum" = some none)
    (z_enumerate : PySem.W.nsIn K mainGlobals "enumerate" = some none)
    (z_range : PySem.W.nsIn K mainGlobals "range" = some none)
    (z_max : PySem.W.nsIn K mainGlobals "max" = some none)
    (aQ : PySem.W.nsIn K mainGlobals "NUMBERS_BEHIND" = some (some (.ref N)))
    (lQ : K.lookup N = some ⟨.type "tuple", od0, .seq #[.int 1 q0, .int 3 q1, .int 1 q2, .int 0 q3, .int 0 q4, .int 0 q5, .int 0 q6] n0, sl0⟩) :
    ∃ (c1 P1 c2 P2 : Addr) (fd : FuncData), PySem.W.tabIn K "numbers_as_they_come" = some (c1, P1) ∧ PySem.W.tabIn K "asked_for_last" = some (c2, P2) ∧ PySem.W.noTabs K = true ∧ (∀ (s : Shared) (us : List Value), us.length = (["calls"] : List Str).length → BindsTo s fd ⟨us, []⟩ ((["calls"] : List Str).zip us)) ∧
      ∀ base : Heap, K.In base → base.Ns mainGlobals mg → LamX.TabB base mg c1 P1 → LamX.TabB base mg c2 P2 → FnOk P w K mg base CX0 7 fa fd ["calls"] (spAns K P1 P2) := by
  have e := hfa.symm.trans (PySem.W.mg_of X G aA_)
  cases e
  have nb : ∃ N, mg "NUMBERS_BEHIND" = some (.ref N) ∧ ∀ H, SqT K H N [.int 1, .int 3, .int 1, .int 0, .int 0, .int 0, .int 0] := ⟨N, PySem.W.mg_of X G aQ, fun H => .inr ⟨_, _, _, lQ, rfl, rfl, (by show 7 ≤ sizeLine; decide), (.cons ⟨q0, rfl⟩ (.cons ⟨q1, rfl⟩ (.cons ⟨q2, rfl⟩ (.cons ⟨q3, rfl⟩ (.cons ⟨q4, rfl⟩ (.cons ⟨q5, rfl⟩ (.cons ⟨q6, rfl⟩ .nil)))))))⟩⟩
  have T : Txt K mg CT CC := ⟨⟨pgCT, hdCT, poCT, saCT⟩, nCo, nAs, nWo, ⟨pgCC, hdCC, poCC, saCC⟩, nPl, nTh, PySem.W.mg_of X G aT, PySem.W.mg_of X G aC, PySem.W.mg_none_of X G z_len, PySem.W.mg_none_of X G z_sorted, PySem.W.mg_none_of X G z_sum, PySem.W.mg_none_of X G z_enumerate, PySem.W.mg_none_of X G z_range, PySem.W.mg_none_of X G z_max, ⟨_, PySem.W.mg_of X G g_mp⟩, ⟨_, PySem.W.mg_of X G g_mt⟩, ⟨_, PySem.W.mg_of X G g_ld⟩, ⟨_, PySem.W.mg_of X G g_mw⟩, ⟨_, PySem.W.mg_of X G g_beg⟩, ⟨_, PySem.W.mg_of X G g_thg⟩, ⟨_, PySem.W.mg_of X G g_chk⟩, ⟨_, PySem.W.mg_of X G g_bst⟩, ⟨_, PySem.W.mg_of X G g_mst⟩, ⟨_, PySem.W.mg_of X G g_pln⟩, nb⟩
  have FI := fun_mk (st := sTInit) lI_ cI_ kI_
  have bI := FI.binds (ps := ["self", "comes", "asked_for", "worth"]) fun _ _ _ _ _ _ us hl => match us, hl with | [_, _, _, _], _ => rfl
  have FP := fun_mk (st := sTakes) lP_ cP_ kP_
  have bP := FP.binds (ps := ["self", "day"]) fun _ _ _ _ _ _ us hl => match us, hl with | [_, _], _ => rfl
  have FT := fun_mk (st := sTaken) lT_ cT_ kT_
  have bT := FT.binds (ps := ["things", "day"]) fun _ _ _ _ _ _ us hl => match us, hl with | [_, _], _ => rfl
  have FF := fun_mk (st := sFirst) lF_ cF_ kF_
  have bF := FF.binds (ps := ["things", "places"]) fun _ _ _ _ _ _ us hl => match us, hl with | [_, _], _ => rfl
  have FW := fun_mk (st := sWorth) lW_ cW_ kW_
  have bW := FW.binds (ps := ["things"]) fun _ _ _ _ _ _ us hl => match us, hl with | [_], _ => rfl
  have FV := fun_mk (st := sRkW) lV_ cV_ kV_
  have bV := FV.binds (ps := ["things"]) fun _ _ _ _ _ _ us hl => match us, hl with | [_], _ => rfl
  have FY := fun_mk (st := sRkS) lY_ cY_ kY_
  have bY := FY.binds (ps := ["things"]) fun _ _ _ _ _ _ us hl => match us, hl with | [_], _ => rfl
  have FL := fun_mk (st := sLine) lL_ cL_ kL_
  have bL := FL.binds (ps := ["things"]) fun _ _ _ _ _ _ us hl => match us, hl with | [_], _ => rfl
  have FZ := fun_mk (st := sLast) lZ_ cZ_ kZ_
  have bZ := FZ.binds (ps := ["things", "numbers"]) fun _ _ _ _ _ _ us hl => match us, hl with | [_, _], _ => rfl
  have FK := fun_mk (st := sKept) lK_ cK_ kK_
  have bK := FK.binds (ps := ["things", "places"]) fun _ _ _ _ _ _ us hl => match us, hl with | [_, _], _ => rfl
  have FX := fun_mk (st := sCInit) lX_ cX_ kX_
  have bX := FX.binds (ps := ["self"]) fun _ _ _ _ _ _ us hl => match us, hl with | [_], _ => rfl
  have FO := fun_mk (st := sThingsOf) lO_ cO_ kO_
  have bO := FO.binds (ps := ["self", "chosen"]) fun _ _ _ _ _ _ us hl => match us, hl with | [_, _], _ => rfl
  have FB := fun_mk (st := sBegins) lB_ cB_ kB_
  have bB := FB.binds (ps := ["self", "places"]) fun _ _ _ _ _ _ us hl => match us, hl with | [_, _], _ => rfl
  have FN := fun_mk (st := sThing) lN_ cN_ kN_
  have bN := FN.binds (ps := ["self", "comes", "asked_for", "worth"]) fun _ _ _ _ _ _ us hl => match us, hl with | [_, _, _, _], _ => rfl
  have FC := fun_mk (st := sCheck) lC_ cC_ kC_
  have bC := FC.binds (ps := ["self", "chosen"]) fun _ _ _ _ _ _ us hl => match us, hl with | [_, _], _ => rfl
  have FE := fun_mk (st := sFore) lE_ cE_ kE_
  have bE := FE.binds (ps := ["self", "rank_of"]) fun _ _ _ _ _ _ us hl => match us, hl with | [_, _], _ => rfl
  have FS := fun_mk (st := sBest) lS_ cS_ kS_
  have bS := FS.binds (ps := ["self"]) fun _ _ _ _ _ _ us hl => match us, hl with | [_], _ => rfl
  have FM := fun_mk (st := sMost) lM_ cM_ kM_
  have bM := FM.binds (ps := ["self"]) fun _ _ _ _ _ _ us hl => match us, hl with | [_], _ => rfl
  have FQ := fun_mk (st := sPlain) lQ_ cQ_ kQ_
  have bQ := FQ.binds (ps := ["self"]) fun _ _ _ _ _ _ us hl => match us, hl with | [_], _ => rfl
  have FG := fun_mk (st := sEnough) lG_ cG_ kG_
  have bG := FG.binds (ps := ["self"]) fun _ _ _ _ _ _ us hl => match us, hl with | [_], _ => rfl
  have FJ := fun_mk (st := sCall) lJ_ cJ_ kJ_
  have bJ := FJ.binds (ps := ["cupboard", "call", "numbers"]) fun _ _ _ _ _ _ us hl => match us, hl with | [_, _, _], _ => rfl
  have FA := fun_mk (st := sAns) lA_ cA_ kA_
  have H : Help K mg CT CC fP fT fF fW fO _ _ _ _ _ := ⟨⟨FP, bP, ⟨aP_, iP_, kP_⟩⟩, FT, bT, PySem.W.mg_of X G aT_, FF, bF, PySem.W.mg_of X G aF_, FW, bW, PySem.W.mg_of X G aW_, FO, bO, ⟨aO_, iO_, kO_⟩⟩
  have R : Ranks K mg CC fE fV fY _ _ _ := ⟨FE, bE, ⟨aE_, iE_, kE_⟩, FV, bV, PySem.W.mg_of X G aV_, FY, bY, PySem.W.mg_of X G aY_⟩
  have C : Calls K mg CT CC fI fB fN fC fS fM fQ fG fK _ _ _ _ _ _ _ _ _ := ⟨⟨mkCT, aI_, iI_, kcCT⟩, FI, bI, FB, bB, ⟨aB_, iB_, kB_⟩, FN, bN, ⟨aN_, iN_, kN_⟩, FC, bC, ⟨aC_, iC_, kC_⟩, FS, bS, ⟨aS_, iS_, kS_⟩, FM, bM, ⟨aM_, iM_, kM_⟩, FQ, bQ, ⟨aQ_, iQ_, kQ_⟩, FG, bG, ⟨aG_, iG_, kG_⟩, FK, bK, PySem.W.mg_of X G aK_⟩
  refine ⟨c1, P1, c2, P2, PySem.W.fnOf "answers" "answers" (defArgs sAns) (defBody sAns) (defScope sAns) .none kVA dcA pmA anA cdA ctA, tab_mk aL_ lL_ e1 lu1 pt1, tab_mk aZ_ lZ_ e2 lu2 pt2, nt, fun s us hu => match us, hu with | [_], _ => .of_eq rfl, fun base _ _ TB1 TB2 => ?_⟩
  have Z : Lines K mg base c1 c2 P1 P2 fL fZ _ _ := ⟨FL, e1, bL, PySem.W.mg_of X G aL_, FZ, e2, bZ, PySem.W.mg_of X G aZ_, TB1, TB2, ne⟩
  exact ok_ans FA T H R Z C FJ bJ (PySem.W.mg_of X G aJ_) ⟨mkCC, aX_, iX_, kcCC⟩ FX bX
end Cup
open PySem PySem.W PyProof.Rows
set_option maxRecDepth 100000 in
set_option maxHeartbeats 8000000 in
theorem PySem.Challenge.cw_cupboardkept_s01_answers_holds : PySem.Challenge.rw_cupboardkept_s01_answers.Holds := by
  w_on; k_headS; (case hw => exact ⟨[.list [.int 3]], by decide +kernel, by decide +kernel⟩)
  k_fillS
  refine Cup.walk_top (r := PySem.Challenge.rw_cupboardkept_s01_answers) (k := 7) (ps := ["calls"]) (sp := Cup.spAns) (x1 := "numbers_as_they_come") (x2 := "asked_for_last") (by decide +kernel) rfl ⟨rfl, by decide, by decide⟩ (fun w h Y => PySem.W.kIn_of Y) ?T1 ?T2 ?F ?S
  case T1 => kernel_rfl
  case T2 => kernel_rfl
  case F =>
    intro w mg fa h Y KX G hmg
    refine' Cup.all_mk KX G hmg ?aT ?aC ?aI_ ?iI_ ?lI_ ?cI_ ?kI_ ?aP_ ?iP_ ?lP_ ?cP_ ?kP_ ?aT_ ?lT_ ?cT_ ?kT_ ?aF_ ?lF_ ?cF_ ?kF_ ?aW_ ?lW_ ?cW_ ?kW_ ?aV_ ?lV_ ?cV_ ?kV_ ?aY_ ?lY_ ?cY_ ?kY_ ?aL_ ?lL_ ?cL_ ?kL_ ?aZ_ ?lZ_ ?cZ_ ?kZ_ ?aK_ ?lK_ ?cK_ ?kK_ ?aX_ ?iX_ ?lX_ ?cX_ ?kX_ ?aO_ ?iO_ ?lO_ ?cO_ ?kO_ ?aB_ ?iB_ ?lB_ ?cB_ ?kB_ ?aN_ ?iN_ ?lN_ ?cN_ ?kN_ ?aC_ ?iC_ ?lC_ ?cC_ ?kC_ ?aE_ ?iE_ ?lE_ ?cE_ ?kE_ ?aS_ ?iS_ ?lS_ ?cS_ ?kS_ ?aM_ ?iM_ ?lM_ ?cM_ ?kM_ ?aQ_ ?iQ_ ?lQ_ ?cQ_ ?kQ_ ?aG_ ?iG_ ?lG_ ?cG_ ?kG_ ?aJ_ ?lJ_ ?cJ_ ?kJ_ ?aA_ ?lA_ ?cA_ ?kA_ ?e1 ?lu1 ?pt1 ?e2 ?lu2 ?pt2 ?ne ?nt ?pgCT ?hdCT ?poCT ?saCT ?mkCT ?kcCT ?nCo ?nAs ?nWo ?pgCC ?hdCC ?poCC ?saCC ?mkCC ?kcCC ?nPl ?nTh ?g_mp ?g_mt ?g_ld ?g_mw ?g_beg ?g_thg ?g_chk ?g_bst ?g_mst ?g_pln ?z_len ?z_sorted ?z_sum ?z_enumerate ?z_range ?z_max ?aQ ?lQ
    (case aT => k_is)
    (case aC => k_is)
    (case aI_ => k_is)
    (case iI_ => k_is)
    (case lI_ => k_is)
    (case cI_ => k_is)
    (case kI_ => k_is)
    (case aP_ => k_is)
    (case iP_ => k_is)
    (case lP_ => k_is)
    (case cP_ => k_is)
    (case kP_ => k_is)
    (case aT_ => k_is)
    (case lT_ => k_is)
    (case cT_ => k_is)
    (case kT_ => k_is)
    (case aF_ => k_is)
    (case lF_ => k_is)
    (case cF_ => k_is)
    (case kF_ => k_is)
    (case aW_ => k_is)
    (case lW_ => k_is)
    (case cW_ => k_is)
    (case kW_ => k_is)
    (case aV_ => k_is)
    (case lV_ => k_is)
    (case cV_ => k_is)
    (case kV_ => k_is)
    (case aY_ => k_is)
    (case lY_ => k_is)
    (case cY_ => k_is)
    (case kY_ => k_is)
    (case aL_ => k_is)
    (case lL_ => k_is)
    (case cL_ => k_is)
    (case kL_ => k_is)
    (case aZ_ => k_is)
    (case lZ_ => k_is)
    (case cZ_ => k_is)
    (case kZ_ => k_is)
    (case aK_ => k_is)
    (case lK_ => k_is)
    (case cK_ => k_is)
    (case kK_ => k_is)
    (case aX_ => k_is)
    (case iX_ => k_is)
    (case lX_ => k_is)
    (case cX_ => k_is)
    (case kX_ => k_is)
    (case aO_ => k_is)
    (case iO_ => k_is)
    (case lO_ => k_is)
    (case cO_ => k_is)
    (case kO_ => k_is)
    (case aB_ => k_is)
    (case iB_ => k_is)
    (case lB_ => k_is)
    (case cB_ => k_is)
    (case kB_ => k_is)
    (case aN_ => k_is)
    (case iN_ => k_is)
    (case lN_ => k_is)
    (case cN_ => k_is)
    (case kN_ => k_is)
    (case aC_ => k_is)
    (case iC_ => k_is)
    (case lC_ => k_is)
    (case cC_ => k_is)
    (case kC_ => k_is)
    (case aE_ => k_is)
    (case iE_ => k_is)
    (case lE_ => k_is)
    (case cE_ => k_is)
    (case kE_ => k_is)
    (case aS_ => k_is)
    (case iS_ => k_is)
    (case lS_ => k_is)
    (case cS_ => k_is)
    (case kS_ => k_is)
    (case aM_ => k_is)
    (case iM_ => k_is)
    (case lM_ => k_is)
    (case cM_ => k_is)
    (case kM_ => k_is)
    (case aQ_ => k_is)
    (case iQ_ => k_is)
    (case lQ_ => k_is)
    (case cQ_ => k_is)
    (case kQ_ => k_is)
    (case aG_ => k_is)
    (case iG_ => k_is)
    (case lG_ => k_is)
    (case cG_ => k_is)
    (case kG_ => k_is)
    (case aJ_ => k_is)
    (case lJ_ => k_is)
    (case cJ_ => k_is)
    (case kJ_ => k_is)
    (case aA_ => k_is)
    (case lA_ => k_is)
    (case cA_ => k_is)
    (case kA_ => k_is)
    (case e1 => exact rfl)
    (case lu1 => k_is)
    (case pt1 => exact rfl)
    (case e2 => exact rfl)
    (case lu2 => k_is)
    (case pt2 => exact rfl)
    (case ne => decide)
    (case nt => kernel_rfl)
    (case pgCT => k_is)
    (case hdCT => k_is)
    (case poCT => k_is)
    (case saCT => k_is)
    (case mkCT => k_is)
    (case kcCT => k_is)
    (case nCo => k_is)
    (case nAs => k_is)
    (case nWo => k_is)
    (case pgCC => k_is)
    (case hdCC => k_is)
    (case poCC => k_is)
    (case saCC => k_is)
    (case mkCC => k_is)
    (case kcCC => k_is)
    (case nPl => k_is)
    (case nTh => k_is)
    (case g_mp => k_is)
    (case g_mt => k_is)
    (case g_ld => k_is)
    (case g_mw => k_is)
    (case g_beg => k_is)
    (case g_thg => k_is)
    (case g_chk => k_is)
    (case g_bst => k_is)
    (case g_mst => k_is)
    (case g_pln => k_is)
    (case z_len => k_is)
    (case z_sorted => k_is)
    (case z_sum => k_is)
    (case z_enumerate => k_is)
    (case z_range => k_is)
    (case z_max => k_is)
    (case aQ => k_is)
    (case lQ => k_is)
  case S =>
    intro K P1 P2 H H' xs a hwi hask hx sm hT
    cases hx with
    | cons h1 h2 =>
      cases h2
      cases h1 with
      | lst hs ha =>
        have e := L2.ints_dw a.1 _ ha
        subst e
        exact ⟨_, a.1, rfl, sm.seq hs, hask, hT, fun H2 p hp => .lst (L2.SqL.of hp) (L2.dw_ints _)⟩

