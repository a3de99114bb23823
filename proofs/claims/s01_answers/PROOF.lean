import PyProof.Rows.All
import PyKm497
import Wide.All
import OpenK.AllK
import Wide.FinOn
import Open.SpecLaws
import KE.OsGo
import HandS.ForSpec
import HandS.ForMost
import HandS.Walk
import HandS.CallLocal
import HandS.Sort
import PySem.Challenge.RW_outofstep_s01_answers
set_option Elab.async false
set_option linter.all false
set_option maxRecDepth 100000
set_option maxHeartbeats 2000000
/-! Sums below a bound, dicts of ages as lists of pairs, and the book's generations by sums. Plain Lean. -/
namespace Oos
open Km497 (Book)

/-! ### sums -/
/-- g 0 + .. + g (n - 1) -/
def Sm : Nat → (Nat → Int) → Int
  | 0, _ => 0
  | n + 1, g => Sm n g + g n
theorem sm_congr {f g : Nat → Int} : ∀ {n : Nat}, (∀ i, i < n → f i = g i) → Sm n f = Sm n g
  | 0, _ => rfl
  | n + 1, h => by
    show Sm n f + f n = Sm n g + g n
    rw [sm_congr fun i hi => h i (by omega), h n (by omega)]
theorem sm_zero : ∀ n : Nat, Sm n (fun _ => 0) = 0
  | 0 => rfl
  | n + 1 => by
    show Sm n (fun _ => 0) + 0 = 0
    rw [sm_zero n]; rfl
theorem sm_zero' {f : Nat → Int} {n : Nat} (h : ∀ i, i < n → f i = 0) : Sm n f = 0 := (sm_congr h).trans (sm_zero n)
theorem sm_add {f g : Nat → Int} : ∀ n : Nat, Sm n (fun i => f i + g i) = Sm n f + Sm n g
  | 0 => rfl
  | n + 1 => by
    show Sm n (fun i => f i + g i) + (f n + g n) = (Sm n f + f n) + (Sm n g + g n)
    rw [sm_add n]; omega
theorem sm_mul {f : Nat → Int} (c : Int) : ∀ n : Nat, Sm n (fun i => c * f i) = c * Sm n f
  | 0 => by simp [Sm]
  | n + 1 => by
    show Sm n (fun i => c * f i) + c * f n = c * (Sm n f + f n)
    rw [sm_mul c n, Int.mul_add]
theorem sm_mulr {f : Nat → Int} (c : Int) (n : Nat) : Sm n (fun i => f i * c) = Sm n f * c := by
  rw [Int.mul_comm (Sm n f), ← sm_mul c n]
  exact sm_congr fun i _ => Int.mul_comm _ _
theorem sm_swap {f : Nat → Nat → Int} (m : Nat) : ∀ n : Nat, Sm n (fun i => Sm m (fun j => f i j)) = Sm m (fun j => Sm n (fun i => f i j))
  | 0 => (sm_zero m).symm
  | n + 1 => by
    show Sm n (fun i => Sm m (fun j => f i j)) + Sm m (fun j => f n j) = Sm m (fun j => Sm n (fun i => f i j) + f n j)
    rw [sm_swap m n, sm_add]
theorem sm_split {f : Nat → Int} (a : Nat) : ∀ b : Nat, Sm (a + b) f = Sm a f + Sm b (fun i => f (a + i))
  | 0 => by show Sm a f = Sm a f + 0; omega
  | b + 1 => by
    show Sm (a + b) f + f (a + b) = Sm a f + (Sm b (fun i => f (a + i)) + f (a + b))
    rw [sm_split a b]; omega
/-- one place alone -/
theorem sm_one {g : Nat → Int} (k : Nat) : ∀ n : Nat, Sm n (fun i => if i = k then g i else 0) = if k < n then g k else 0
  | 0 => by simp [Sm]
  | n + 1 => by
    show Sm n (fun i => if i = k then g i else 0) + (if n = k then g n else 0) = _
    rw [sm_one k n]
    by_cases h : n = k
    · subst h
      rw [if_neg (Nat.lt_irrefl _), if_pos rfl, if_pos (Nat.lt_succ_self _)]; omega
    · rw [if_neg h]
      by_cases h2 : k < n
      · rw [if_pos h2, if_pos (by omega)]; omega
      · rw [if_neg h2, if_neg (by omega)]; omega
theorem sm_le {f g : Nat → Int} : ∀ {n : Nat}, (∀ i, i < n → f i ≤ g i) → Sm n f ≤ Sm n g
  | 0, _ => Int.le_refl _
  | n + 1, h => by
    have h1 := sm_le (n := n) fun i hi => h i (by omega)
    have h2 := h n (by omega)
    show Sm n f + f n ≤ Sm n g + g n
    omega
theorem sm_nonneg {f : Nat → Int} {n : Nat} (h : ∀ i, i < n → 0 ≤ f i) : 0 ≤ Sm n f := by
  have := sm_le h
  rwa [sm_zero] at this
theorem sm_ge {f : Nat → Int} : ∀ {n : Nat}, (∀ i, i < n → 0 ≤ f i) → ∀ k, k < n → f k ≤ Sm n f
  | 0, _, k, h => absurd h (Nat.not_lt_zero _)
  | n + 1, h, k, hk => by
    have h2 := h n (by omega)
    have h3 : 0 ≤ Sm n f := sm_nonneg fun i hi => h i (by omega)
    show f k ≤ Sm n f + f n
    by_cases e : k = n
    · subst e; omega
    · have := sm_ge (n := n) (fun i hi => h i (by omega)) k (by omega)
      omega

/-! ### the specification's sums -/
theorem foldl_add (l : List Nat) : ∀ a : Nat, l.foldl (· + ·) a = a + l.foldl (· + ·) 0 := by
  induction l with
  | nil => intro a; rfl
  | cons x r ih =>
    intro a
    rw [List.foldl_cons, List.foldl_cons, ih, ih (0 + x)]; omega
theorem sum_nil : Km497.sum [] = 0 := rfl
theorem sum_cons (x : Nat) (r : List Nat) : Km497.sum (x :: r) = x + Km497.sum r := by
  show (x :: r).foldl (· + ·) 0 = _
  rw [List.foldl_cons, foldl_add]
  show 0 + x + Km497.sum r = _
  omega
theorem sum_append (a b : List Nat) : Km497.sum (a ++ b) = Km497.sum a + Km497.sum b := by
  induction a with
  | nil => rw [List.nil_append, sum_nil]; omega
  | cons x r ih => rw [List.cons_append, sum_cons, ih, sum_cons]; omega
theorem sum_sm (g : Nat → Nat) : ∀ n : Nat, (Km497.sum ((List.range n).map g) : Int) = Sm n (fun i => (g i : Int))
  | 0 => rfl
  | n + 1 => by
    rw [List.range_succ, List.map_append, sum_append, List.map_cons, List.map_nil, sum_cons, sum_nil]
    show _ = Sm n (fun i => (g i : Int)) + (g n : Int)
    rw [← sum_sm g n]; omega
theorem sum_list : ∀ (l : List Nat), (Km497.sum l : Int) = Sm l.length (fun i => (l.getD i 0 : Int)) := by
  intro l
  rw [← sum_sm (fun i => l.getD i 0) l.length]
  congr 2
  apply List.ext_getElem?
  intro i
  by_cases h : i < l.length
  · simp [h, List.getD_eq_getElem?_getD]
  · simp [h, List.getD_eq_getElem?_getD]
theorem sum_le_getD (l : List Nat) (i : Nat) : l.getD i 0 ≤ Km497.sum l := by
  induction l generalizing i with
  | nil => simp
  | cons x r ih =>
    rw [sum_cons]
    cases i with
    | zero => simp
    | succ i => have := ih i; simp at this ⊢; omega
theorem sum_set (l : List Nat) (i n : Nat) (h : i < l.length) : Km497.sum (l.set i n) = Km497.sum l - l.getD i 0 + n := by
  induction l generalizing i with
  | nil => simp at h
  | cons x r ih =>
    cases i with
    | zero => rw [List.set_cons_zero, sum_cons, sum_cons]; simp; omega
    | succ i =>
      have h' : i < r.length := by simpa using h
      have h2 := sum_le_getD r i
      rw [List.set_cons_succ, sum_cons, sum_cons, ih i h']
      simp at h2 ⊢
      omega
theorem sum_map_cast (l : List Nat) : (l.map fun (n : Nat) => (n : Int)).sum = (Km497.sum l : Int) := by
  induction l with
  | nil => rfl
  | cons x r ih => rw [List.map_cons, List.sum_cons, ih, sum_cons]; omega

/-! ### dicts of whole numbers -/
abbrev D := List (Int × Int)
def look (d : D) (k : Int) : Option Int := (d.find? fun p => decide (p.1 = k)).map (·.2)
def put (d : D) (k v : Int) : D := if (d.any fun p => decide (p.1 = k)) = true then d.map (fun p => if p.1 = k then (p.1, v) else p) else d ++ [(k, v)]
def add (d : D) (k n : Int) : D := put d k ((look d k).getD 0 + n)
/-- the values, each times f of its key -/
def S (f : Int → Int) (d : D) : Int := (d.map fun p => f p.1 * p.2).sum
theorem S_nil (f : Int → Int) : S f [] = 0 := rfl
theorem S_cons (f : Int → Int) (p : Int × Int) (r : D) : S f (p :: r) = f p.1 * p.2 + S f r := by
  show ((p :: r).map _).sum = _
  rw [List.map_cons, List.sum_cons]; rfl
theorem S_append (f : Int → Int) (a b : D) : S f (a ++ b) = S f a + S f b := by
  induction a with
  | nil => rw [List.nil_append, S_nil]; omega
  | cons x r ih => rw [List.cons_append, S_cons, ih, S_cons]; omega
structure Ok (d : D) : Prop where
  nd : (d.map (·.1)).Nodup
  pos : ∀ p ∈ d, 0 < p.2
theorem Ok.nil : Ok [] := ⟨List.nodup_nil, fun _ h => nomatch h⟩
theorem any_mem {d : D} {k : Int} : (d.any fun p => decide (p.1 = k)) = true ↔ k ∈ d.map (·.1) := by
  rw [List.any_eq_true, List.mem_map]
  constructor
  · rintro ⟨p, h1, h2⟩; exact ⟨p, h1, of_decide_eq_true h2⟩
  · rintro ⟨p, h1, h2⟩; exact ⟨p, h1, decide_eq_true h2⟩
theorem look_none {d : D} {k : Int} (h : k ∉ d.map (·.1)) : look d k = none := by
  unfold look
  rw [Option.map_eq_none_iff, List.find?_eq_none]
  intro p hp z
  exact h (List.mem_map.mpr ⟨p, hp, of_decide_eq_true z⟩)
theorem look_cons_pos {p : Int × Int} {r : D} {k : Int} (e : p.1 = k) : look (p :: r) k = some p.2 := by simp [look, List.find?_cons, e]
theorem look_cons_neg {p : Int × Int} {r : D} {k : Int} (e : ¬ p.1 = k) : look (p :: r) k = look r k := by simp [look, List.find?_cons, e]
def ind (k : Int) : Int → Int := fun a => if a = k then 1 else 0
theorem look_S {d : D} (nd : (d.map (·.1)).Nodup) (k : Int) : (look d k).getD 0 = S (ind k) d := by
  induction d with
  | nil => rfl
  | cons p r ih =>
    rw [List.map_cons, List.nodup_cons] at nd
    rw [S_cons]
    by_cases e : p.1 = k
    · rw [look_cons_pos e]
      have h0 : S (ind k) r = 0 := by
        have := ih nd.2
        rw [look_none (by rw [← e]; exact nd.1)] at this
        exact this.symm
      rw [h0]
      simp [ind, e]
    · rw [look_cons_neg e, ih nd.2]
      simp [ind, e]
theorem S_map_off (f : Int → Int) (k v : Int) : ∀ {d : D}, k ∉ d.map (·.1) → S f (d.map (fun p => if p.1 = k then (p.1, v) else p)) = S f d
  | [], _ => rfl
  | p :: r, h => by
    rw [List.map_cons, List.mem_cons, not_or] at h
    rw [List.map_cons, S_cons, S_cons, S_map_off f k v h.2, if_neg fun z => h.1 z.symm]
theorem S_map_on (f : Int → Int) (k v : Int) : ∀ {d : D}, (d.map (·.1)).Nodup → k ∈ d.map (·.1) → S f (d.map (fun p => if p.1 = k then (p.1, v) else p)) = S f d + f k * (v - (look d k).getD 0)
  | [], _, h => nomatch h
  | p :: r, nd, h => by
    rw [List.map_cons, List.nodup_cons] at nd
    rw [List.map_cons, S_cons, S_cons]
    by_cases e : p.1 = k
    · rw [if_pos e, look_cons_pos e, S_map_off f k v (by rw [← e]; exact nd.1)]
      show f p.1 * v + S f r = f p.1 * p.2 + S f r + f k * (v - p.2)
      rw [e, Int.mul_sub]; omega
    · rw [if_neg e, look_cons_neg e]
      rw [List.map_cons, List.mem_cons] at h
      rcases h with h | h
      · exact absurd h.symm e
      · rw [S_map_on f k v nd.2 h]; omega
theorem keys_map (k v : Int) (d : D) : (d.map (fun p => if p.1 = k then (p.1, v) else p)).map (·.1) = d.map (·.1) := by
  rw [List.map_map]
  apply List.map_congr_left
  intro p _
  show (if p.1 = k then (p.1, v) else p).1 = p.1
  by_cases e : p.1 = k
  · rw [if_pos e]
  · rw [if_neg e]
theorem S_add (f : Int → Int) {d : D} (nd : (d.map (·.1)).Nodup) (k n : Int) : S f (add d k n) = S f d + f k * n := by
  unfold add put
  by_cases h : k ∈ d.map (·.1)
  · rw [if_pos (any_mem.mpr h), S_map_on f k _ nd h]
    have e : (look d k).getD 0 + n - (look d k).getD 0 = n := by omega
    rw [e]
  · rw [if_neg (fun z => h (any_mem.mp z)), S_append, look_none h, S_cons, S_nil]
    show S f d + (f k * (0 + n) + 0) = _
    rw [Int.zero_add, Int.add_zero]
theorem Ok.add {d : D} (o : Ok d) {k n : Int} (hn : 0 < n) : Ok (add d k n) := by
  have h0 : 0 ≤ (look d k).getD 0 := by
    cases e : look d k with
    | none => exact Int.le_refl _
    | some v =>
      unfold look at e
      obtain ⟨p, h1, h2⟩ := Option.map_eq_some_iff.mp e
      have := o.pos p (List.mem_of_find?_eq_some h1)
      show 0 ≤ v
      omega
  unfold Oos.add put
  by_cases h : k ∈ d.map (·.1)
  · rw [if_pos (any_mem.mpr h)]
    refine ⟨by rw [keys_map]; exact o.nd, fun p hp => ?_⟩
    obtain ⟨q, hq, e⟩ := List.mem_map.mp hp
    by_cases c : q.1 = k
    · rw [if_pos c] at e
      rw [← e]
      show 0 < (look d k).getD 0 + n
      omega
    · rw [if_neg c] at e
      rw [← e]
      exact o.pos q hq
  · rw [if_neg (fun z => h (any_mem.mp z))]
    refine ⟨?_, fun p hp => ?_⟩
    · rw [List.map_append, List.nodup_append]
      refine ⟨o.nd, by simp, fun a ha b hb => ?_⟩
      have e : b = k := by simpa using hb
      rw [e]
      intro z
      exact h (z ▸ ha)
    · rcases List.mem_append.mp hp with hp | hp
      · exact o.pos p hp
      · have e : p = (k, (look d k).getD 0 + n) := by simpa using hp
        rw [e]
        show 0 < (look d k).getD 0 + n
        omega
theorem keys_add {d : D} {k n : Int} {a : Int} (h : a ∈ (Oos.add d k n).map (·.1)) : a ∈ d.map (·.1) ∨ a = k := by
  unfold Oos.add put at h
  by_cases c : k ∈ d.map (·.1)
  · rw [if_pos (any_mem.mpr c), keys_map] at h
    exact .inl h
  · rw [if_neg (fun z => c (any_mem.mp z)), List.map_append] at h
    rcases List.mem_append.mp h with h | h
    · exact .inl h
    · exact .inr (by simpa using h)
theorem length_add (d : D) (k n : Int) : (Oos.add d k n).length ≤ d.length + 1 := by
  unfold Oos.add put
  by_cases c : (d.any fun p => decide (p.1 = k)) = true
  · rw [if_pos c, List.length_map]; omega
  · rw [if_neg c, List.length_append]; simp

/-! ### a generation: the book's row of counts, and the program's dict -/
/-- a row of counts, each times f of its age -/
def T (f : Int → Int) (v : List Nat) : Int := Sm 141 (fun i => f ((i : Int) - 60) * (v.getD i 0 : Int))
/-- the dict d tells the row v -/
structure Rep (d : D) (v : List Nat) : Prop where
  ok : Ok d
  len : v.length = 141
  eq : ∀ f, S f d = T f v
/-- a row of counts: none below lo, none from hi on -/
def Within (v : List Nat) (lo hi : Nat) : Prop := ∀ i, i < lo ∨ hi ≤ i → v.getD i 0 = 0
theorem Rep.at {d : D} {v : List Nat} (r : Rep d v) (k : Int) (h1 : -60 ≤ k) (h2 : k ≤ 80) : (look d k).getD 0 = (v.getD (k + 60).toNat 0 : Int) := by
  rw [look_S r.ok.nd, r.eq]
  unfold T
  have e : Sm 141 (fun i => ind k ((i : Int) - 60) * (v.getD i 0 : Int)) = Sm 141 (fun i => if i = (k + 60).toNat then (v.getD i 0 : Int) else 0) := by
    apply sm_congr
    intro i hi
    unfold ind
    by_cases c : i = (k + 60).toNat
    · rw [if_pos c, if_pos (by omega)]; omega
    · rw [if_neg c, if_neg (by omega)]; omega
  rw [e, sm_one, if_pos (by omega)]
theorem Rep.total {d : D} {v : List Nat} (r : Rep d v) : (d.map (·.2)).sum = (Km497.sum v : Int) := by
  have h := r.eq (fun _ => 1)
  have e1 : S (fun _ => 1) d = (d.map (·.2)).sum := by
    unfold S
    congr 1
    apply List.map_congr_left
    intro p _
    exact Int.one_mul _
  rw [← e1, h, sum_list, r.len]
  unfold T
  exact sm_congr fun i _ => Int.one_mul _
theorem Rep.weight {d : D} {v : List Nat} (r : Rep d v) : (d.map (fun p => p.1 * p.2)).sum = (Km497.weight v : Int) - ((Km497.sum v * 60 : Nat) : Int) := by
  have h := r.eq (fun a => a)
  have e1 : S (fun a => a) d = (d.map (fun p => p.1 * p.2)).sum := rfl
  have e2 : (Km497.weight v : Int) = Sm 141 (fun i => ((i * v.getD i 0 : Nat) : Int)) := by
    unfold Km497.weight
    rw [sum_sm, r.len]
  have e3 : ((Km497.sum v * 60 : Nat) : Int) = Sm 141 (fun i => 60 * (v.getD i 0 : Int)) := by
    rw [sm_mul, ← r.len, ← sum_list]; omega
  rw [← e1, h, e2, e3]
  show Sm 141 (fun i => ((i : Int) - 60) * (v.getD i 0 : Int)) = _
  have e4 : Sm 141 (fun i => ((i * v.getD i 0 : Nat) : Int)) = Sm 141 (fun i => ((i : Int) - 60) * (v.getD i 0 : Int)) + Sm 141 (fun i => 60 * (v.getD i 0 : Int)) := by
    rw [← sm_add]
    apply sm_congr
    intro i _
    rw [Int.sub_mul, Int.natCast_mul]; omega
  omega
theorem Rep.empty {d : D} {v : List Nat} (r : Rep d v) : d = [] ↔ Km497.sum v = 0 := by
  have h := r.total
  constructor
  · intro e
    rw [e] at h
    have : (0 : Int) = (Km497.sum v : Int) := h
    omega
  · intro e
    cases d with
    | nil => rfl
    | cons p q =>
      have h1 := r.ok.pos p (List.mem_cons_self)
      have h2 : 0 ≤ (q.map (·.2)).sum := by
        have hq : ∀ x ∈ q, 0 < x.2 := fun x hx => r.ok.pos x (List.mem_cons_of_mem _ hx)
        clear h r h1
        induction q with
        | nil => exact Int.le_refl _
        | cons a b ih =>
          rw [List.map_cons, List.sum_cons]
          have := hq a (List.mem_cons_self)
          have := ih fun x hx => hq x (List.mem_cons_of_mem _ hx)
          omega
      rw [List.map_cons, List.sum_cons] at h
      omega
/-- the keys are the ages at which somebody comes in -/
theorem Rep.mem {d : D} {v : List Nat} (r : Rep d v) (k : Int) : k ∈ d.map (·.1) ↔ -60 ≤ k ∧ k ≤ 80 ∧ 0 < v.getD (k + 60).toNat 0 := by
  have key : k ∈ d.map (·.1) ↔ 0 < S (ind k) d := by
    rw [← look_S r.ok.nd]
    constructor
    · intro h
      obtain ⟨p, hp, e⟩ := List.mem_map.mp h
      cases c : look d k with
      | none =>
        unfold look at c
        rw [Option.map_eq_none_iff, List.find?_eq_none] at c
        exact absurd (decide_eq_true e) (c p hp)
      | some x =>
        unfold look at c
        obtain ⟨q, h1, h2⟩ := Option.map_eq_some_iff.mp c
        have := r.ok.pos q (List.mem_of_find?_eq_some h1)
        show 0 < x
        omega
    · intro h
      apply Classical.byContradiction
      intro z
      rw [look_none z] at h
      exact absurd h (by decide)
  rw [key]
  by_cases c : -60 ≤ k ∧ k ≤ 80
  · have := r.at k c.1 c.2
    rw [look_S r.ok.nd] at this
    rw [this]
    constructor
    · intro h; exact ⟨c.1, c.2, by omega⟩
    · intro h; have := h.2.2; omega
  · have e : S (ind k) d = 0 := by
      rw [r.eq]
      unfold T
      apply sm_zero'
      intro i hi
      unfold ind
      rw [if_neg (by omega)]; omega
    rw [e]
    constructor
    · intro h; omega
    · intro h; exact absurd ⟨h.1, h.2.1⟩ c
/-- how many at ages that a test takes -/
theorem Rep.some {d : D} {v : List Nat} (r : Rep d v) (p : Int → Bool) :
    ((d.filter fun q => p q.1).map (·.2)).sum = Sm 141 (fun i => if p ((i : Int) - 60) = true then (v.getD i 0 : Int) else 0) := by
  have h := r.eq (fun a => if p a = true then 1 else 0)
  have e1 : ∀ d : D, S (fun a => if p a = true then 1 else 0) d = ((d.filter fun q => p q.1).map (·.2)).sum := by
    intro d
    induction d with
    | nil => rfl
    | cons x y ih =>
      rw [S_cons, ih]
      by_cases c : p x.1 = true
      · rw [if_pos c, List.filter_cons_of_pos (p := fun (q : Int × Int) => p q.1) c, List.map_cons, List.sum_cons]; omega
      · rw [if_neg c, List.filter_cons_of_neg (p := fun (q : Int × Int) => p q.1) c]; omega
  rw [← e1, h]
  unfold T
  apply sm_congr
  intro i _
  show (if p ((i : Int) - 60) = true then 1 else 0) * (v.getD i 0 : Int) = _
  by_cases c : p ((i : Int) - 60) = true
  · rw [if_pos c, if_pos c]; omega
  · rw [if_neg c, if_neg c]; omega
theorem Rep.between {d : D} {v : List Nat} (r : Rep d v) (l h : Nat) :
    ((d.filter fun q => decide ((l : Int) ≤ q.1) && decide (q.1 ≤ (h : Int))).map (·.2)).sum = (Km497.between v l h : Int) := by
  rw [r.some fun a => decide ((l : Int) ≤ a) && decide (a ≤ (h : Int))]
  unfold Km497.between Km497.SIZE Km497.OFF
  rw [sum_sm]
  apply sm_congr
  intro i _
  by_cases c : l + 60 ≤ i ∧ i ≤ h + 60
  · rw [if_pos c, if_pos (by rw [Bool.and_eq_true]; exact ⟨decide_eq_true (by omega), decide_eq_true (by omega)⟩)]
  · rw [if_neg c, if_neg]
    · rfl
    · intro z
      rw [Bool.and_eq_true] at z
      have z1 := of_decide_eq_true z.1
      have z2 := of_decide_eq_true z.2
      exact c ⟨by omega, by omega⟩

/-! ### the next generation -/
/-- does a son count, told by age and grade -/
def counted (rule : Option (Nat × Nat)) (grade : Int) : Bool := match rule with
  | none => true
  | some r => decide ((r.1 : Int) ≤ grade) && decide (grade < (r.2 : Int))
theorem counts_is (b : Book) (i x : Nat) : b.counts i x = counted b.rule ((x : Int) - ((i : Int) - 60)) := by
  unfold Book.counts counted Km497.OFF
  cases b.rule with
  | none => rfl
  | some r =>
    show (decide (i + r.1 ≤ x + 60) && decide (x + 60 < i + r.2)) = (decide ((r.1 : Int) ≤ (x : Int) - ((i : Int) - 60)) && decide ((x : Int) - ((i : Int) - 60) < (r.2 : Int)))
    congr 1
    · exact decide_eq_decide.mpr (by omega)
    · exact decide_eq_decide.mpr (by omega)
/-- the sons of a man who came in at e, each times f of his age -/
def G (b : Book) (f : Int → Int) (e : Int) : Int := Sm 13 (fun x => if counted b.rule ((x : Int) - e) = true then f (e + (b.gap : Int) - (x : Int)) * (b.w x : Int) else 0)
theorem next_T (b : Book) (v : List Nat) (f : Int → Int) (hg : b.gap ≤ 10) (hv : Within v 12 131) : T f (b.next v) = T (G b f) v := by
  have e0 : ∀ j, j < 141 → ((b.next v).getD j 0 : Int) = Sm 13 (fun x => Sm 141 (fun i => if i + b.gap = j + x ∧ b.counts i x = true then (v.getD i 0 : Int) * (b.w x : Int) else 0)) := by
    intro j hj
    unfold Book.next
    rw [List.getD_eq_getElem?_getD, List.getElem?_map, List.getElem?_range (by exact hj)]
    show ((Km497.sum ((List.range Km497.AGES).map _) : Nat) : Int) = _
    rw [sum_sm]
    apply sm_congr
    intro x hx
    have e1 : Sm 141 (fun i => if i + b.gap = j + x ∧ b.counts i x = true then (v.getD i 0 : Int) * (b.w x : Int) else 0)
        = Sm 141 (fun i => if i = j + x - b.gap then (if b.gap ≤ j + x ∧ b.counts i x = true then (v.getD i 0 : Int) * (b.w x : Int) else 0) else 0) := by
      apply sm_congr
      intro i hi
      by_cases c : i = j + x - b.gap
      · rw [if_pos c]
        by_cases c2 : b.gap ≤ j + x
        · by_cases c3 : b.counts i x = true
          · rw [if_pos ⟨by omega, c3⟩, if_pos ⟨c2, c3⟩]
          · rw [if_neg (fun z => c3 z.2), if_neg (fun z => c3 z.2)]
        · rw [if_neg (fun z => c2 (by omega)), if_neg (fun z => c2 z.1)]
      · rw [if_neg c, if_neg (fun z => c (by omega))]
    rw [e1, sm_one]
    by_cases c : j + x < b.gap
    · rw [if_pos c]
      by_cases c2 : j + x - b.gap < 141
      · rw [if_pos c2, if_neg (fun z => absurd z.1 (by omega))]; rfl
      · rw [if_neg c2]; rfl
    · rw [if_neg c]
      show (((if (j + x - b.gap < Km497.SIZE ∧ b.counts (j + x - b.gap) x = true) then v.getD (j + x - b.gap) 0 * b.w x else 0 : Nat)) : Int) = _
      by_cases c2 : j + x - b.gap < 141
      · rw [if_pos c2]
        by_cases c3 : b.counts (j + x - b.gap) x = true
        · rw [if_pos (show j + x - b.gap < Km497.SIZE ∧ b.counts (j + x - b.gap) x = true from ⟨c2, c3⟩), Int.natCast_mul, if_pos ⟨by omega, c3⟩]
        · rw [if_neg (show ¬ (j + x - b.gap < Km497.SIZE ∧ b.counts (j + x - b.gap) x = true) from fun z => c3 z.2), if_neg (fun z => c3 z.2)]; rfl
      · rw [if_neg c2, if_neg (fun z => c2 z.1)]; rfl
  unfold T G
  have e2 : Sm 141 (fun j => f ((j : Int) - 60) * ((b.next v).getD j 0 : Int))
      = Sm 141 (fun j => Sm 13 (fun x => Sm 141 (fun i => if i + b.gap = j + x ∧ b.counts i x = true then f ((j : Int) - 60) * ((v.getD i 0 : Int) * (b.w x : Int)) else 0))) := by
    apply sm_congr
    intro j hj
    rw [e0 j hj, ← sm_mul]
    apply sm_congr
    intro x _
    rw [← sm_mul]
    apply sm_congr
    intro i _
    by_cases c : i + b.gap = j + x ∧ b.counts i x = true
    · rw [if_pos c, if_pos c]
    · rw [if_neg c, if_neg c, Int.mul_zero]
  rw [e2, sm_swap]
  have e3 : Sm 141 (fun i => Sm 13 (fun x => if counted b.rule ((x : Int) - ((i : Int) - 60)) = true then f ((i : Int) - 60 + (b.gap : Int) - (x : Int)) * (b.w x : Int) else 0) * (v.getD i 0 : Int))
      = Sm 13 (fun x => Sm 141 (fun i => if b.counts i x = true then f ((i : Int) - 60 + (b.gap : Int) - (x : Int)) * (b.w x : Int) * (v.getD i 0 : Int) else 0)) := by
    rw [← sm_swap]
    apply sm_congr
    intro i _
    rw [← sm_mulr]
    apply sm_congr
    intro x _
    rw [counts_is]
    by_cases c : counted b.rule ((x : Int) - ((i : Int) - 60)) = true
    · rw [if_pos c, if_pos c]
    · rw [if_neg c, if_neg c, Int.zero_mul]
  rw [e3]
  apply sm_congr
  intro x hx
  rw [sm_swap]
  apply sm_congr
  intro i hi
  by_cases c : b.counts i x = true
  · rw [if_pos c]
    by_cases z : v.getD i 0 = 0
    · rw [z, Int.natCast_zero, Int.mul_zero]
      apply sm_zero'
      intro j _
      by_cases c2 : i + b.gap = j + x ∧ b.counts i x = true
      · rw [if_pos c2, Int.zero_mul, Int.mul_zero]
      · rw [if_neg c2]
    · have hi2 : 12 ≤ i ∧ i < 131 := by
        constructor
        · apply Classical.byContradiction; intro q; exact z (hv i (.inl (by omega)))
        · apply Classical.byContradiction; intro q; exact z (hv i (.inr (by omega)))
      have e4 : Sm 141 (fun j => if i + b.gap = j + x ∧ b.counts i x = true then f ((j : Int) - 60) * ((v.getD i 0 : Int) * (b.w x : Int)) else 0)
          = Sm 141 (fun j => if j = i + b.gap - x then f ((j : Int) - 60) * ((v.getD i 0 : Int) * (b.w x : Int)) else 0) := by
        apply sm_congr
        intro j _
        by_cases c2 : j = i + b.gap - x
        · rw [if_pos c2, if_pos ⟨by omega, c⟩]
        · rw [if_neg c2, if_neg (fun q => c2 (by omega))]
      rw [e4, sm_one, if_pos (by omega)]
      have e5 : ((i + b.gap - x : Nat) : Int) - 60 = (i : Int) - 60 + (b.gap : Int) - (x : Int) := by omega
      rw [e5, Int.mul_comm (v.getD i 0 : Int), Int.mul_assoc]
  · rw [if_neg c]
    apply sm_zero'
    intro j _
    rw [if_neg (fun q => c q.2)]
theorem next_len (b : Book) (v : List Nat) : (b.next v).length = 141 := by
  unfold Book.next Km497.SIZE
  rw [List.length_map, List.length_range]
theorem next_within {b : Book} {v : List Nat} {lo hi : Nat} (hg1 : 1 ≤ b.gap) (hg : b.gap ≤ 10) (hlo : 12 ≤ lo) (hhi : hi + 10 ≤ 141) (hv : Within v lo hi) : Within (b.next v) (lo - 12) (hi + 10) := by
  intro j hj
  by_cases c : j < 141
  · unfold Book.next
    rw [List.getD_eq_getElem?_getD, List.getElem?_map, List.getElem?_range (by exact c)]
    show Km497.sum ((List.range Km497.AGES).map _) = 0
    have e : ((Km497.sum ((List.range Km497.AGES).map fun x => if j + x < b.gap then 0 else
        let i := j + x - b.gap
        if i < Km497.SIZE ∧ b.counts i x = true then v.getD i 0 * b.w x else 0) : Nat) : Int) = 0 := by
      rw [sum_sm]
      apply sm_zero'
      intro x hx
      have hx : x < 13 := hx
      by_cases c2 : j + x < b.gap
      · rw [if_pos c2]; rfl
      · rw [if_neg c2]
        have z : v.getD (j + x - b.gap) 0 = 0 := hv _ (by omega)
        show (((if (j + x - b.gap < Km497.SIZE ∧ b.counts (j + x - b.gap) x = true) then v.getD (j + x - b.gap) 0 * b.w x else 0 : Nat)) : Int) = _
        rw [z, Nat.zero_mul]
        by_cases c3 : j + x - b.gap < Km497.SIZE ∧ b.counts (j + x - b.gap) x = true
        · rw [if_pos c3]; rfl
        · rw [if_neg c3]; rfl
    exact Int.ofNat.inj e
  · rw [List.getD_eq_getElem?_getD, List.getElem?_eq_none (by rw [next_len]; omega)]; rfl
end Oos
namespace Oos
open Km497 (Book)
/-! ### the program's dicts: the first men, the next generation -/
def firstRow (fs : List Nat) : List Nat := List.replicate 60 0 ++ fs ++ List.replicate 60 0
/-- behind the first k ages -/
def d0 (fs : List Nat) : Nat → D
  | 0 => []
  | k + 1 => if 0 < fs.getD k 0 then put (d0 fs k) (k : Int) (fs.getD k 0 : Int) else d0 fs k
theorem d0_keys (fs : List Nat) : ∀ (k : Nat) (a : Int), a ∈ (d0 fs k).map (·.1) → 0 ≤ a ∧ a < k
  | 0, a, h => nomatch h
  | k + 1, a, h => by
    unfold d0 at h
    by_cases c : 0 < fs.getD k 0
    · rw [if_pos c] at h
      unfold put at h
      by_cases c2 : (k : Int) ∈ (d0 fs k).map (·.1)
      · rw [if_pos (any_mem.mpr c2), keys_map] at h
        have := d0_keys fs k a h; omega
      · rw [if_neg (fun z => c2 (any_mem.mp z)), List.map_append] at h
        rcases List.mem_append.mp h with h | h
        · have := d0_keys fs k a h; omega
        · have e : a = (k : Int) := by simpa using h
          omega
    · rw [if_neg c] at h
      have := d0_keys fs k a h; omega
theorem d0_add (fs : List Nat) (k : Nat) : put (d0 fs k) (k : Int) (fs.getD k 0 : Int) = add (d0 fs k) (k : Int) (fs.getD k 0 : Int) := by
  unfold add
  rw [look_none fun z => by have := d0_keys fs k _ z; omega]
  show _ = put (d0 fs k) k (0 + _)
  rw [Int.zero_add]
theorem d0_ok (fs : List Nat) : ∀ k : Nat, Ok (d0 fs k)
  | 0 => Ok.nil
  | k + 1 => by
    unfold d0
    by_cases c : 0 < fs.getD k 0
    · rw [if_pos c, d0_add]
      exact (d0_ok fs k).add (by omega)
    · rw [if_neg c]
      exact d0_ok fs k
theorem d0_S (fs : List Nat) (f : Int → Int) : ∀ k : Nat, S f (d0 fs k) = Sm k (fun i => f (i : Int) * (fs.getD i 0 : Int))
  | 0 => rfl
  | k + 1 => by
    show S f (if 0 < fs.getD k 0 then put (d0 fs k) (k : Int) (fs.getD k 0 : Int) else d0 fs k) = Sm k _ + f (k : Int) * (fs.getD k 0 : Int)
    by_cases c : 0 < fs.getD k 0
    · rw [if_pos c, d0_add, S_add f (d0_ok fs k).nd, d0_S fs f k]
    · rw [if_neg c, d0_S fs f k]
      have z : fs.getD k 0 = 0 := by omega
      rw [z]; simp
theorem d0_len (fs : List Nat) : ∀ k : Nat, (d0 fs k).length ≤ k
  | 0 => Nat.le_refl _
  | k + 1 => by
    unfold d0
    by_cases c : 0 < fs.getD k 0
    · rw [if_pos c, d0_add]
      have := length_add (d0 fs k) k (fs.getD k 0)
      have := d0_len fs k
      omega
    · rw [if_neg c]
      have := d0_len fs k
      omega
theorem firstRow_len {fs : List Nat} (h : fs.length = 21) : (firstRow fs).length = 141 := by
  simp [firstRow, h]
theorem firstRow_at {fs : List Nat} (h : fs.length = 21) (i : Nat) (hi : i < 21) : (firstRow fs).getD (60 + i) 0 = fs.getD i 0 := by
  unfold firstRow
  simp only [List.getD_eq_getElem?_getD]
  rw [List.getElem?_append_left (by simp [h]; omega), List.getElem?_append_right (by simp)]
  simp
theorem repl_getD (n i : Nat) : ((List.replicate n (0 : Nat))[i]?).getD 0 = 0 := by
  rw [List.getElem?_replicate]
  split <;> rfl
theorem firstRow_within {fs : List Nat} (h : fs.length = 21) : Within (firstRow fs) 60 81 := by
  intro i hi
  unfold firstRow
  simp only [List.getD_eq_getElem?_getD]
  rcases hi with hi | hi
  · rw [List.getElem?_append_left (by simp [h]; omega), List.getElem?_append_left (by simp; omega)]
    exact repl_getD _ _
  · rw [List.getElem?_append_right (by simp [h]; omega)]
    exact repl_getD _ _
theorem firstRow_set {fs : List Nat} (h : fs.length = 21) (e n : Nat) (he : e < 21) : (firstRow fs).set (e + 60) n = firstRow (fs.set e n) := by
  unfold firstRow
  rw [List.set_append_left _ _ (by simp [h]; omega), List.set_append_right _ _ (by simp)]
  simp
theorem firstRow_sum (fs : List Nat) : Km497.sum (firstRow fs) = Km497.sum fs := by
  have z : ∀ n : Nat, Km497.sum (List.replicate n 0) = 0 := by
    intro n
    induction n with
    | zero => rfl
    | succ n ih => rw [List.replicate_succ, sum_cons, ih]
  unfold firstRow
  rw [sum_append, sum_append, z]; omega
theorem first_rep {fs : List Nat} (h : fs.length = 21) : Rep (d0 fs 21) (firstRow fs) := by
  refine ⟨d0_ok fs 21, firstRow_len h, fun f => ?_⟩
  rw [d0_S]
  unfold T
  rw [show (141 : Nat) = 60 + (21 + 60) from rfl, sm_split 60, sm_split 21]
  have z1 : Sm 60 (fun i => f ((i : Int) - 60) * ((firstRow fs).getD i 0 : Int)) = 0 := by
    apply sm_zero'
    intro i hi
    rw [firstRow_within h i (.inl hi)]; simp
  have z2 : Sm 60 (fun i => f (((60 + (21 + i) : Nat) : Int) - 60) * ((firstRow fs).getD (60 + (21 + i)) 0 : Int)) = 0 := by
    apply sm_zero'
    intro i hi
    rw [firstRow_within h (60 + (21 + i)) (.inr (by omega))]; simp
  rw [z1, z2, Int.zero_add, Int.add_zero]
  apply sm_congr
  intro i hi
  rw [firstRow_at h i hi, show ((60 + i : Nat) : Int) - 60 = (i : Int) by omega]

/-- behind the sons at the first k ages of a father -/
def sonsD (b : Book) (e m : Int) (acc : D) : Nat → D
  | 0 => acc
  | k + 1 => if 0 < b.w k ∧ counted b.rule ((k : Int) - e) = true then add (sonsD b e m acc k) (e + (b.gap : Int) - (k : Int)) (m * (b.w k : Int)) else sonsD b e m acc k
def nextD (b : Book) : D → D → D
  | acc, [] => acc
  | acc, p :: r => nextD b (sonsD b p.1 p.2 acc 13) r
theorem sonsD_ok (b : Book) {e m : Int} {acc : D} (hm : 0 < m) (o : Ok acc) : ∀ k : Nat, Ok (sonsD b e m acc k)
  | 0 => o
  | k + 1 => by
    unfold sonsD
    by_cases c : 0 < b.w k ∧ counted b.rule ((k : Int) - e) = true
    · rw [if_pos c]
      exact (sonsD_ok b hm o k).add (Int.mul_pos hm (by omega))
    · rw [if_neg c]
      exact sonsD_ok b hm o k
theorem sonsD_S (b : Book) (f : Int → Int) {e m : Int} {acc : D} (hm : 0 < m) (o : Ok acc) : ∀ k : Nat, S f (sonsD b e m acc k) = S f acc +
    Sm k (fun x => if counted b.rule ((x : Int) - e) = true then f (e + (b.gap : Int) - (x : Int)) * (b.w x : Int) else 0) * m
  | 0 => by simp [sonsD, Sm]
  | k + 1 => by
    show S f (if 0 < b.w k ∧ counted b.rule ((k : Int) - e) = true then _ else _) = S f acc + (Sm k _ + (if counted b.rule ((k : Int) - e) = true then f (e + (b.gap : Int) - (k : Int)) * (b.w k : Int) else 0)) * m
    rw [Int.add_mul, ← Int.add_assoc, ← sonsD_S b f hm o k]
    by_cases c : 0 < b.w k ∧ counted b.rule ((k : Int) - e) = true
    · rw [if_pos c, if_pos c.2, S_add f (sonsD_ok b hm o k).nd, Int.mul_comm m, Int.mul_assoc]
    · rw [if_neg c]
      by_cases c2 : counted b.rule ((k : Int) - e) = true
      · rw [if_pos c2]
        have z : b.w k = 0 := by
          apply Classical.byContradiction
          intro q
          exact c ⟨by omega, c2⟩
        rw [z]; simp
      · rw [if_neg c2]; simp
theorem nextD_ok (b : Book) : ∀ {d acc : D}, Ok acc → (∀ p ∈ d, 0 < p.2) → Ok (nextD b acc d)
  | [], acc, o, _ => o
  | p :: r, acc, o, h => nextD_ok b (d := r) (acc := sonsD b p.1 p.2 acc 13) (sonsD_ok b (h p (List.mem_cons_self)) o 13) fun q hq => h q (List.mem_cons_of_mem _ hq)
theorem nextD_S (b : Book) (f : Int → Int) : ∀ {d acc : D}, Ok acc → (∀ p ∈ d, 0 < p.2) → S f (nextD b acc d) = S f acc + S (G b f) d
  | [], acc, o, _ => by show S f acc = S f acc + 0; omega
  | p :: r, acc, o, h => by
    show S f (nextD b (sonsD b p.1 p.2 acc 13) r) = _
    rw [nextD_S b f (sonsD_ok b (h p (List.mem_cons_self)) o 13) fun q hq => h q (List.mem_cons_of_mem _ hq), sonsD_S b f (h p (List.mem_cons_self)) o, S_cons, Int.add_assoc]
    rfl
theorem sonsD_len (b : Book) (e m : Int) (acc : D) : ∀ k : Nat, (sonsD b e m acc k).length ≤ acc.length + k
  | 0 => Nat.le_refl _
  | k + 1 => by
    unfold sonsD
    have h := sonsD_len b e m acc k
    by_cases c : 0 < b.w k ∧ counted b.rule ((k : Int) - e) = true
    · rw [if_pos c]
      have := length_add (sonsD b e m acc k) (e + (b.gap : Int) - (k : Int)) (m * (b.w k : Int))
      omega
    · rw [if_neg c]; omega
theorem nextD_len (b : Book) : ∀ (d acc : D), (nextD b acc d).length ≤ acc.length + 13 * d.length
  | [], acc => Nat.le_add_right _ _
  | p :: r, acc => by
    have h1 := nextD_len b r (sonsD b p.1 p.2 acc 13)
    have h2 := sonsD_len b p.1 p.2 acc 13
    show (nextD b (sonsD b p.1 p.2 acc 13) r).length ≤ _
    rw [List.length_cons]
    omega
theorem nextD_append (b : Book) : ∀ (d1 d2 acc : D), nextD b acc (d1 ++ d2) = nextD b (nextD b acc d1) d2
  | [], d2, acc => rfl
  | p :: r, d2, acc => nextD_append b r d2 _
theorem next_rep {b : Book} {d : D} {v : List Nat} (hg : b.gap ≤ 10) (hv : Within v 12 131) (r : Rep d v) : Rep (nextD b [] d) (b.next v) := by
  refine ⟨nextD_ok b Ok.nil r.ok.pos, next_len b v, fun f => ?_⟩
  rw [nextD_S b f Ok.nil r.ok.pos, S_nil, Int.zero_add, r.eq, next_T b v f hg hv]

/-! ### the book as the program holds it -/
structure Wf (b : Book) : Prop where
  g1 : 1 ≤ b.gap
  g2 : b.gap ≤ 10
  sl : b.sons.length = 13
  s9 : ∀ n ∈ b.sons, n ≤ 9
  s40 : Km497.sum b.sons ≤ 40
  fl : ∃ fs : List Nat, fs.length = 21 ∧ b.first = firstRow fs ∧ ∀ n ∈ fs, n ≤ 9
  ru : ∀ r, b.rule = some r → r.1 < r.2 ∧ r.2 ≤ 40
def genD (b : Book) (fs : List Nat) : Nat → D
  | 0 => d0 fs 21
  | n + 1 => nextD b [] (genD b fs n)
theorem gen_within {b : Book} {fs : List Nat} (g1 : 1 ≤ b.gap) (g2 : b.gap ≤ 10) (hl : fs.length = 21) (hf : b.first = firstRow fs) : ∀ n : Nat, n ≤ 4 → Within (b.gen n) (60 - 12 * n) (81 + 10 * n)
  | 0, _ => by
    show Within b.first 60 81
    rw [hf]
    exact firstRow_within hl
  | n + 1, h => by
    have ih := gen_within g1 g2 hl hf n (by omega)
    have := next_within (b := b) g1 g2 (by omega) (by omega) ih
    intro i hi
    exact this i (by omega)
theorem Within.mono {v : List Nat} {lo hi lo' hi' : Nat} (h : Within v lo hi) (h1 : lo' ≤ lo) (h2 : hi ≤ hi') : Within v lo' hi' := fun i hi => h i (by omega)
theorem gen_rep {b : Book} {fs : List Nat} (g1 : 1 ≤ b.gap) (g2 : b.gap ≤ 10) (hl : fs.length = 21) (hf : b.first = firstRow fs) : ∀ n : Nat, n ≤ 4 → Rep (genD b fs n) (b.gen n)
  | 0, _ => by
    show Rep (d0 fs 21) b.first
    rw [hf]
    exact first_rep hl
  | n + 1, h => next_rep g2 ((gen_within g1 g2 hl hf n (by omega)).mono (by omega) (by omega)) (gen_rep g1 g2 hl hf n (by omega))
theorem gen_len (b : Book) (fs : List Nat) : ∀ n : Nat, (genD b fs n).length ≤ 21 * 13 ^ n
  | 0 => d0_len fs 21
  | n + 1 => by
    have h := gen_len b fs n
    have h2 := nextD_len b (genD b fs n) []
    show (nextD b [] (genD b fs n)).length ≤ _
    rw [Nat.pow_succ]
    simp at h2
    omega
theorem total_T {v : List Nat} (h : v.length = 141) : (Km497.sum v : Int) = T (fun _ => 1) v := by
  rw [sum_list, h]
  unfold T
  exact sm_congr fun i _ => (Int.one_mul _).symm
theorem each_Sm {b : Book} (h : b.sons.length = 13) : (b.each : Int) = Sm 13 (fun x => (b.w x : Int)) := by
  unfold Book.each
  rw [sum_list, h]
  rfl
theorem next_total {b : Book} {v : List Nat} (hs : b.sons.length = 13) (hg : b.gap ≤ 10) (hv : Within v 12 131) (hl : v.length = 141) : Km497.sum (b.next v) ≤ b.each * Km497.sum v := by
  have h : (Km497.sum (b.next v) : Int) ≤ (b.each : Int) * (Km497.sum v : Int) := by
    rw [total_T (next_len b v), next_T b v _ hg hv, total_T hl]
    unfold T
    rw [← sm_mul]
    apply sm_le
    intro i _
    show G b (fun _ => 1) ((i : Int) - 60) * (v.getD i 0 : Int) ≤ (b.each : Int) * (1 * (v.getD i 0 : Int))
    rw [Int.one_mul]
    apply Int.mul_le_mul_of_nonneg_right _ (by omega)
    rw [each_Sm hs]
    unfold G
    apply sm_le
    intro x _
    by_cases c : counted b.rule ((x : Int) - ((i : Int) - 60)) = true
    · rw [if_pos c, Int.one_mul]; exact Int.le_refl _
    · rw [if_neg c]; omega
  exact Int.ofNat_le.mp (by rw [Int.natCast_mul]; exact h)
theorem sum_bound : ∀ (l : List Nat), (∀ n ∈ l, n ≤ 9) → Km497.sum l ≤ 9 * l.length
  | [], _ => Nat.le_refl _
  | x :: r, h => by
    have h1 := h x (List.mem_cons_self)
    have h2 := sum_bound r fun n hn => h n (List.mem_cons_of_mem _ hn)
    rw [sum_cons, List.length_cons]; omega
theorem Wf.gen_total {b : Book} (w : Wf b) : ∀ n : Nat, n ≤ 4 → Km497.sum (b.gen n) ≤ 189 * 40 ^ n
  | 0, _ => by
    obtain ⟨fs, h1, h2, h3⟩ := w.fl
    show Km497.sum b.first ≤ 189 * 1
    rw [h2, firstRow_sum]
    have := sum_bound fs h3
    omega
  | n + 1, h => by
    obtain ⟨fs, h1, h2, h3⟩ := w.fl
    have ih := w.gen_total n (by omega)
    have q := next_total (b := b) (v := b.gen n) w.sl w.g2 ((gen_within w.g1 w.g2 h1 h2 n (by omega)).mono (by omega) (by omega)) (gen_rep w.g1 w.g2 h1 h2 n (by omega)).len
    have e : b.each ≤ 40 := w.s40
    show Km497.sum (b.next (b.gen n)) ≤ _
    have m : b.each * Km497.sum (b.gen n) ≤ 40 * (189 * 40 ^ n) := Nat.mul_le_mul e ih
    rw [Nat.pow_succ]
    omega

/-! ### numbers that aren't whole -/
theorem over_is (w : Int) (t : Nat) (ht : 0 < t) : Km497.over w t = [if w < 0 then 1 else 0, w.natAbs / Nat.gcd w.natAbs t, t / Nat.gcd w.natAbs t] := by
  have hg : 0 < Nat.gcd w.natAbs t := Nat.gcd_pos_of_pos_right _ ht
  have hd : ((Nat.gcd w.natAbs t : Nat) : Int) ∣ w := Int.ofNat_dvd_left.mpr (Nat.gcd_dvd_left _ _)
  obtain ⟨q, hq⟩ := hd
  unfold Km497.over Km497.signed
  generalize Nat.gcd w.natAbs t = g at *
  have e1 : w / (g : Int) = q := by
    rw [hq]
    exact Int.mul_ediv_cancel_left q (by omega)
  have e2 : w.natAbs / g = q.natAbs := by
    rw [hq, Int.natAbs_mul, Int.natAbs_natCast]
    exact Nat.mul_div_cancel_left _ hg
  have e3 : w < 0 ↔ q < 0 := by
    rw [hq]
    constructor
    · intro h
      apply Classical.byContradiction
      intro z
      have := Int.mul_nonneg (a := (g : Int)) (b := q) (by omega) (by omega)
      omega
    · intro h
      exact Int.mul_neg_of_pos_of_neg (by omega) h
  show [if w / (g : Int) < 0 then 1 else 0, (w / (g : Int)).natAbs] ++ [t / g] = _
  rw [e1, e2]
  by_cases c : w < 0
  · rw [if_pos c, if_pos (e3.mp c)]; rfl
  · rw [if_neg c, if_neg (fun z => c (e3.mpr z))]; rfl
end Oos
namespace Oos
open Km497 (Book)
/-! ### those who don't count -/
def GL (b : Book) (e : Int) : Int := Sm 13 (fun x => if counted b.rule ((x : Int) - e) = true then 0 else (b.w x : Int))
theorem lost_T (b : Book) (v : List Nat) : (b.lost v : Int) = T (GL b) v := by
  unfold Book.lost T GL
  rw [sum_sm]
  apply sm_congr
  intro i _
  rw [sum_sm, ← sm_mulr]
  apply sm_congr
  intro x _
  rw [counts_is]
  by_cases c : counted b.rule ((x : Int) - ((i : Int) - 60)) = true
  · rw [if_pos c, if_pos c, Int.zero_mul]; rfl
  · rw [if_neg c, if_neg c, Int.natCast_mul, Int.mul_comm]
theorem T_add (f g : Int → Int) (v : List Nat) : T (fun e => f e + g e) v = T f v + T g v := by
  unfold T
  rw [← sm_add]
  apply sm_congr
  intro i _
  exact Int.add_mul _ _ _
theorem T_const (c : Int) {v : List Nat} (h : v.length = 141) : T (fun _ => c) v = c * (Km497.sum v : Int) := by
  rw [sum_list, h]
  unfold T
  exact sm_mul c 141
/-- none lost, none twice -/
theorem lost_total {b : Book} {v : List Nat} (hs : b.sons.length = 13) (hg : b.gap ≤ 10) (hv : Within v 12 131) (hl : v.length = 141) : (b.lost v : Int) + (Km497.sum (b.next v) : Int) = (b.each : Int) * (Km497.sum v : Int) := by
  rw [lost_T, total_T (next_len b v), next_T b v _ hg hv, ← T_add, ← T_const _ hl]
  unfold T
  apply sm_congr
  intro i _
  congr 1
  unfold GL G
  dsimp only
  rw [← sm_add, each_Sm hs]
  apply sm_congr
  intro x _
  by_cases c : counted b.rule ((x : Int) - ((i : Int) - 60)) = true
  · rw [if_pos c, if_pos c]; omega
  · rw [if_neg c, if_neg c]; omega
theorem Rep.lost {d : D} {v : List Nat} (r : Rep d v) (b : Book) : S (GL b) d = (b.lost v : Int) := by
  rw [r.eq, lost_T]
/-! ### the least, the greatest age; where most come in -/
theorem here_mem {v : List Nat} {i : Nat} : i ∈ Km497.here v ↔ i < 141 ∧ 0 < v.getD i 0 := by
  unfold Km497.here Km497.SIZE
  rw [List.mem_filter, List.mem_range]
  constructor
  · rintro ⟨h1, h2⟩; exact ⟨h1, of_decide_eq_true h2⟩
  · rintro ⟨h1, h2⟩; exact ⟨h1, decide_eq_true h2⟩
theorem here_lt (v : List Nat) : (Km497.here v).Pairwise (· < ·) := by
  unfold Km497.here
  exact List.Pairwise.filter _ List.pairwise_lt_range
theorem Rep.key {d : D} {v : List Nat} (r : Rep d v) {k : Int} (h : k ∈ d.map (·.1)) : -60 ≤ k ∧ k ≤ 80 ∧ (k + 60).toNat ∈ Km497.here v := by
  obtain ⟨h1, h2, h3⟩ := (r.mem k).mp h
  exact ⟨h1, h2, here_mem.mpr ⟨by omega, h3⟩⟩
theorem Rep.back {d : D} {v : List Nat} (r : Rep d v) {i : Nat} (h : i ∈ Km497.here v) : (i : Int) - 60 ∈ d.map (·.1) := by
  obtain ⟨h1, h2⟩ := here_mem.mp h
  refine (r.mem _).mpr ⟨by omega, by omega, ?_⟩
  rw [show ((i : Int) - 60 + 60).toNat = i by omega]
  exact h2
theorem Rep.here_nil {d : D} {v : List Nat} (r : Rep d v) : Km497.here v = [] ↔ d = [] := by
  constructor
  · intro h
    cases d with
    | nil => rfl
    | cons p q =>
      have := (r.key (k := p.1) (List.mem_map.mpr ⟨p, List.mem_cons_self, rfl⟩)).2.2
      rw [h] at this
      cases this
  · intro h
    cases e : Km497.here v with
    | nil => rfl
    | cons i l =>
      have := r.back (i := i) (by rw [e]; exact List.mem_cons_self)
      rw [h] at this
      cases this
theorem lastD_mem {α : Type} : ∀ (l : List α) (a : α), l.getLastD a ∈ a :: l
  | [], a => List.mem_cons_self
  | b :: l, a => by
    rw [List.getLastD_cons]
    exact List.mem_cons_of_mem _ (lastD_mem l b)
theorem lastD_ge : ∀ (l : List Nat) (a : Nat), (a :: l).Pairwise (· < ·) → ∀ j ∈ a :: l, j ≤ l.getLastD a
  | [], a, _, j, hj => by
    have e : j = a := by simpa using hj
    rw [e]; exact Nat.le_refl _
  | b :: l, a, h, j, hj => by
    rw [List.getLastD_cons]
    obtain ⟨h1, h2⟩ := List.pairwise_cons.mp h
    have ih := lastD_ge l b h2
    rcases List.mem_cons.mp hj with e | hj
    · have h3 := ih b (List.mem_cons_self)
      have h4 := h1 b (List.mem_cons_self)
      omega
    · exact ih j hj
theorem Rep.spread {d : D} {v : List Nat} (r : Rep d v) {lo hi : Int} (h1 : lo ∈ d.map (·.1)) (h2 : ∀ k ∈ d.map (·.1), lo ≤ k) (h3 : hi ∈ d.map (·.1)) (h4 : ∀ k ∈ d.map (·.1), k ≤ hi) :
    ∃ i l, Km497.here v = i :: l ∧ (i : Int) - 60 = lo ∧ ((l.getLastD i : Nat) : Int) - 60 = hi := by
  cases e : Km497.here v with
  | nil =>
    have := (r.key h1).2.2
    rw [e] at this
    cases this
  | cons i l =>
    have hs := here_lt v
    rw [e] at hs
    refine ⟨i, l, rfl, ?_, ?_⟩
    · have k1 := h2 _ (r.back (i := i) (by rw [e]; exact List.mem_cons_self))
      obtain ⟨m1, m2, m3⟩ := r.key h1
      rw [e] at m3
      rcases List.mem_cons.mp m3 with z | z
      · omega
      · have := (List.pairwise_cons.mp hs).1 _ z
        omega
    · have k1 := h4 _ (r.back (i := l.getLastD i) (by rw [e]; exact lastD_mem l i))
      obtain ⟨m1, m2, m3⟩ := r.key h3
      rw [e] at m3
      have := lastD_ge l i hs _ m3
      omega
/-- the first of those with the greatest value, by the specification's own fold -/
def best (g : Nat → Nat) (o : Option Nat) (l : List Nat) : Option Nat := l.foldl (fun (o : Option Nat) i => match o with
  | none => some i
  | some j => if g j < g i then some i else some j) o
theorem best_some (g : Nat → Nat) : ∀ (l : List Nat) (j : Nat), (j :: l).Pairwise (· < ·) → ∃ i, best g (some j) l = some i ∧ i ∈ j :: l ∧ ∀ k ∈ j :: l, g k ≤ g i ∧ (g k = g i → i ≤ k)
  | [], j, _ => ⟨j, rfl, List.mem_cons_self, fun k hk => by
      have e : k = j := by simpa using hk
      rw [e]; exact ⟨Nat.le_refl _, fun _ => Nat.le_refl _⟩⟩
  | a :: l, j, h => by
    obtain ⟨h1, h2⟩ := List.pairwise_cons.mp h
    by_cases c : g j < g a
    · obtain ⟨i, e, hm, hk⟩ := best_some g l a h2
      refine ⟨i, ?_, List.mem_cons_of_mem _ hm, fun k hk' => ?_⟩
      · show best g (if g j < g a then some a else some j) l = some i
        rw [if_pos c]; exact e
      · rcases List.mem_cons.mp hk' with z | z
        · have := hk a (List.mem_cons_self)
          rw [z]
          exact ⟨by omega, fun q => by omega⟩
        · exact hk k z
    · have h3 : (j :: l).Pairwise (· < ·) := List.pairwise_cons.mpr ⟨fun k hk => h1 k (List.mem_cons_of_mem _ hk), (List.pairwise_cons.mp h2).2⟩
      obtain ⟨i, e, hm, hk⟩ := best_some g l j h3
      refine ⟨i, ?_, ?_, fun k hk' => ?_⟩
      · show best g (if g j < g a then some a else some j) l = some i
        rw [if_neg c]; exact e
      · rcases List.mem_cons.mp hm with z | z
        · rw [z]; exact List.mem_cons_self
        · exact List.mem_cons_of_mem _ (List.mem_cons_of_mem _ z)
      · rcases List.mem_cons.mp hk' with z | z
        · rw [z]; exact hk j (List.mem_cons_self)
        · rcases List.mem_cons.mp z with z | z
          · have h4 := hk j (List.mem_cons_self)
            have h5 := h1 a (List.mem_cons_self)
            rw [z]
            refine ⟨by omega, fun q => ?_⟩
            have := h4.2 (by omega)
            omega
          · exact hk k (List.mem_cons_of_mem _ z)
theorem peak_is (v : List Nat) : Km497.peak v = best (fun i => v.getD i 0) none (Km497.here v) := rfl
theorem Rep.peak_none {d : D} {v : List Nat} (r : Rep d v) (h : d = []) : Km497.peak v = none := by
  rw [peak_is, r.here_nil.mpr h]; rfl
theorem Rep.peak {d : D} {v : List Nat} (r : Rep d v) {e m : Int} (h1 : (e, m) ∈ d) (h2 : ∀ p ∈ d, p.2 ≤ m) (h3 : ∀ p ∈ d, p.2 = m → e ≤ p.1) :
    Km497.peak v = Option.some (e + 60).toNat ∧ (v.getD (e + 60).toNat 0 : Int) = m ∧ -60 ≤ e ∧ e ≤ 80 := by
  have val : ∀ p ∈ d, (v.getD (p.1 + 60).toNat 0 : Int) = p.2 ∧ -60 ≤ p.1 ∧ p.1 ≤ 80 ∧ (p.1 + 60).toNat ∈ Km497.here v := fun p hp => by
    obtain ⟨m1, m2, m3⟩ := r.key (k := p.1) (List.mem_map.mpr ⟨p, hp, rfl⟩)
    refine ⟨?_, m1, m2, m3⟩
    rw [← r.at p.1 m1 m2]
    cases c : look d p.1 with
    | none =>
      unfold look at c
      rw [Option.map_eq_none_iff, List.find?_eq_none] at c
      exact absurd (decide_eq_true rfl) (c p hp)
    | some x =>
      unfold look at c
      obtain ⟨q, hq, e2⟩ := Option.map_eq_some_iff.mp c
      have hq1 := List.find?_some hq
      have hq2 := List.mem_of_find?_eq_some hq
      have eq1 : q.1 = p.1 := of_decide_eq_true hq1
      have : q = p := by
        have nd := r.ok.nd
        have : ∀ {l : D}, (l.map (·.1)).Nodup → ∀ a ∈ l, ∀ b ∈ l, a.1 = b.1 → a = b := by
          intro l
          induction l with
          | nil => intro _ a ha; cases ha
          | cons x y ih =>
            intro nd a ha b hb e
            rw [List.map_cons, List.nodup_cons] at nd
            rcases List.mem_cons.mp ha with za | za
            · rcases List.mem_cons.mp hb with zb | zb
              · rw [za, zb]
              · exact absurd (List.mem_map.mpr ⟨b, zb, by rw [← e, za]⟩) nd.1
            · rcases List.mem_cons.mp hb with zb | zb
              · exact absurd (List.mem_map.mpr ⟨a, za, by rw [e, zb]⟩) nd.1
              · exact ih nd.2 a za b zb e
        exact this nd q hq2 p hp eq1
      show x = p.2
      rw [← e2, this]
  obtain ⟨ve, b1, b2, hm⟩ := val _ h1
  have ve : (v.getD (e + 60).toNat 0 : Int) = m := ve
  refine ⟨?_, ve, b1, b2⟩
  rw [peak_is]
  cases eh : Km497.here v with
  | nil =>
    have hm : (e + 60).toNat ∈ Km497.here v := hm
    rw [eh] at hm
    cases hm
  | cons a l =>
    have hs := here_lt v
    rw [eh] at hs
    obtain ⟨i, ei, mi, hk⟩ := best_some (fun i => v.getD i 0) l a hs
    show best (fun i => v.getD i 0) (Option.some a) l = _
    rw [ei]
    have hm : (e + 60).toNat ∈ Km497.here v := hm
    have mi' : i ∈ Km497.here v := by rw [eh]; exact mi
    obtain ⟨i1, i2⟩ := here_mem.mp mi'
    obtain ⟨q, hq, eq⟩ := List.mem_map.mp (r.back mi')
    obtain ⟨vq, _, _, _⟩ := val q hq
    rw [show (q.1 + 60).toNat = i by omega] at vq
    rw [eh] at hm
    have k1 := hk _ hm
    have k2 := h2 q hq
    have k3 : q.2 = m := by
      have := k1.1
      omega
    have k4 := h3 q hq k3
    have k5 := k1.2 (by omega)
    congr 1
    omega
end Oos
namespace Oos
open PySem PySem.Spec PyProof.Rows L2
/-! ### heaps, lists, dicts as the layer has them -/
theorem same_upd {H : Hp} {p : Addr} {o : HO} (h : H p = none) : Same H (upd H p o) := fun b x e => by
  rw [upd_ne (ne_of_none e h)]
  exact e
/-- a change at a place that was not tracked at first -/
theorem Same.over {H H1 : Hp} {p : Addr} {o : HO} (s : Same H H1) (h : H p = none) : Same H (upd H1 p o) := fun b x e => by
  rw [upd_ne (ne_of_none e h)]
  exact s b x e
def nums (l : List Nat) : List V := l.map fun (n : Nat) => V.int (n : Int)
theorem nums_at {l : List Nat} {i : Nat} (h : i < l.length) : (nums l)[i]? = some (V.int (l.getD i 0 : Nat)) := by
  unfold nums
  rw [List.getElem?_map, List.getD_eq_getElem?_getD, List.getElem?_eq_getElem h]
  rfl
theorem nums_len (l : List Nat) : (nums l).length = l.length := List.length_map _
theorem nums_ints (l : List Nat) : nums l = (l.map fun (n : Nat) => (n : Int)).map V.int := by
  unfold nums
  rw [List.map_map]
  rfl
theorem nums_set (l : List Nat) (i n : Nat) : (nums l).set i (V.int (n : Int)) = nums (l.set i n) := by
  unfold nums
  rw [List.map_set]
def enc (d : D) : List (Key × V) := d.map fun p => ((Sum.inl p.1 : Key), V.int p.2)
theorem enc_len (d : D) : (enc d).length = d.length := List.length_map _
theorem inl_eq (a k : Int) : ((Sum.inl a : Key) = Sum.inl k) ↔ a = k := ⟨fun h => Sum.inl.inj h, fun h => by rw [h]⟩
theorem valV_enc (k : Int) : ∀ d : D, valV (enc d) (Sum.inl k : Key) = (look d k).map V.int
  | [] => rfl
  | p :: r => by
    show valV ((Sum.inl p.1, V.int p.2) :: enc r) (Sum.inl k : Key) = _
    by_cases e : p.1 = k
    · rw [valV_pos ((inl_eq _ _).mpr e), look_cons_pos e]; rfl
    · rw [valV_neg (fun z => e ((inl_eq _ _).mp z)), look_cons_neg e, valV_enc k r]
theorem getD_enc (d : D) (k : Int) (z : Int) : (valV (enc d) (Sum.inl k : Key)).getD (V.int z) = V.int ((look d k).getD z) := by
  rw [valV_enc]
  cases look d k <;> rfl
theorem putK_enc (d : D) (k v : Int) : putK (enc d) (Sum.inl k : Key) (V.int v) = enc (put d k v) := by
  have a : ((enc d).any fun kv => decide (kv.1 = (Sum.inl k : Key))) = (d.any fun p => decide (p.1 = k)) := by
    unfold enc
    rw [List.any_map]
    congr 1
    funext p
    exact decide_eq_decide.mpr (inl_eq p.1 k)
  unfold putK put
  rw [a]
  by_cases c : (d.any fun p => decide (p.1 = k)) = true
  · rw [if_pos c, if_pos c]
    unfold enc
    rw [List.map_map, List.map_map]
    apply List.map_congr_left
    intro p _
    show (if (Sum.inl p.1 : Key) = Sum.inl k then ((Sum.inl p.1 : Key), V.int v) else (Sum.inl p.1, V.int p.2)) = ((Sum.inl (if p.1 = k then (p.1, v) else p).1 : Key), V.int (if p.1 = k then (p.1, v) else p).2)
    by_cases e : p.1 = k
    · rw [if_pos ((inl_eq _ _).mpr e), if_pos e]
    · rw [if_neg (fun z => e ((inl_eq _ _).mp z)), if_neg e]
  · rw [if_neg c, if_neg c]
    unfold enc
    rw [List.map_append]; rfl
theorem enc_at {d : D} {i : Nat} (h : i < d.length) : (enc d)[i]? = some (Sum.inl (d[i]).1, V.int (d[i]).2) := by
  unfold enc
  rw [List.getElem?_map, List.getElem?_eq_getElem h]
  rfl
theorem enc_vals (d : D) : (enc d).map (·.2) = (d.map (·.2)).map V.int := by
  unfold enc
  rw [List.map_map, List.map_map]; rfl
/-! ### walks: a dict's items, a list's items with their places -/
theorem walk_encs {d : D} {f : Addr} {od : Obj} : Walk (Iti f od (enc d)) d.length (fun H => H f = some (.frz od (.dK (enc d)))) (fun i H v H' => ∃ (T : Addr) (p : Int × Int), d[i]? = some p ∧ v = .ref T ∧ H T = none ∧ H' = upd H T (.tup [.int p.1, .int p.2])) := by
  have w := walk_items (d := f) (o := od) (kvs := enc d)
  rw [enc_len] at w
  refine w.mono (fun _ h => h) fun i H v H' hi _ y => ?_
  obtain ⟨T, x, y, e1, e2, e3, ex, ey⟩ := y
  have ex : some (kV (Sum.inl (d[i]).1)) = some x := by
    rw [← ex]
    show _ = ((enc d)[i]?).map _
    rw [enc_at hi]; rfl
  have ey : some (V.int (d[i]).2) = some y := by
    rw [← ey]
    show _ = ((enc d)[i]?).map _
    rw [enc_at hi]; rfl
  cases ex
  cases ey
  exact ⟨T, d[i], List.getElem?_eq_getElem hi, e1, e2, e3⟩
theorem walk_enums {K : PySem.W.Frag} {l : List Nat} {a : Addr} : Walk (Ite K a) l.length (fun H => SqL K H a (nums l)) (fun i H v H' => ∃ T : Addr, v = .ref T ∧ H T = none ∧ H' = upd H T (.tup [.int (i : Nat), .int (l.getD i 0 : Nat)])) := by
  have w := walk_enum (K := K) (a := a) (xs := nums l)
  rw [nums_len] at w
  refine w.mono (fun _ h => h) fun i H v H' hi _ y => ?_
  obtain ⟨T, x, y, e1, e2, e3, ex, ey⟩ := y
  have ey := (nums_at hi).symm.trans ey
  cases ex
  cases ey
  exact ⟨T, e1, e2, e3⟩
/-! ### a def of the text, as its callers see it -/
structure Has (P : Program) (w : World) (K : PySem.W.Frag) (mg : Str → Option Value) (base : Heap) (x : Str) (ps : List Str) (k : Nat) (sp : Sp) : Prop where
  ex : ∃ (f : Addr) (fd : FuncData), mg x = some (.ref f) ∧ PySem.W.keepIn K (.ref f) = true ∧ Binds K fd ps [] ∧ FnOk P w K mg base CX0 k f fd ps sp
theorem pe_has {X : Cx} {x : Str} {ps : List Str} {k : Nat} {sp : Sp} {e : Expr} {es : List Expr} {t : TA} {p pos : Pos} (h : Has X.prog X.w X.K X.mg X.base x ps k sp) (hr : Room k X.A) (ha : PA X (e :: es) t) (hg : Gl X x := by rfl)
    (hdb : (x == ("__debug__" : Str)) = false := by decide) (he : starEach (e :: es) X.env = (false, eval e X.env) :: starEach es X.env := by rfl) (hpl : (backTo pos (starEach es X.env)).any (·.1) = false := by rfl) :
    PE X (.Call (.Name x p) (e :: es) [] pos) (tCall sp [] E0 t) := by
  obtain ⟨f, fd, h1, h2, h3, h4⟩ := h.ex
  exact pe_call h4 hr hg h1 h2 h3 .nil pass0 ha hdb he hpl
/-- a method of the class at C -/
structure HasM (P : Program) (w : World) (K : PySem.W.Frag) (mg : Str → Option Value) (base : Heap) (C : Addr) (m : Str) (ps : List Str) (k : Nat) (sp : Sp) : Prop where
  cl : Cls K C
  ex : ∃ (f : Addr) (fd : FuncData), Meth K C m f ∧ Binds K fd ps [] ∧ FnOk P w K mg base CX0 k f fd ps sp
theorem pe_hasM {X : Cx} {C : Addr} {m : Str} {ps : List Str} {k : Nat} {sp : Sp} {o e : Expr} {es : List Expr} {ta : TE} {t : TA} {apos pos : Pos} {pl : Sem Bool} (he : PE X o ta) (h : HasM X.prog X.w X.K X.mg X.base C m ps k sp) (hr : Room k X.A) (ha : PA X (e :: es) t)
    (hst : starEach (e :: es) X.env = (false, eval e X.env) :: starEach es X.env := by rfl) (hpl : (backTo pos (starEach es X.env)).any (·.1) = false := by rfl)
    (ht : eval (.Call (.Attribute o m apos) (e :: es) [] pos) X.env = (do
      let ov ← eval o X.env
      standAt apos.atName
      let (f, first) ← holding [ov] (getMethod ov m pl)
      callWith pos f first (backTo pos (starEach (e :: es) X.env)) (backToKw pos (keywordEach [] X.env))) := by rfl) :
    PE X (.Call (.Attribute o m apos) (e :: es) [] pos) (tMeth C m sp [] E0 ta t) := by
  obtain ⟨f, fd, h1, h2, h3⟩ := h.ex
  exact pe_meth (pl := pl) he h.cl h1 h3 hr h2 .nil pass0 ha hst hpl ht
theorem pe_hasM0 {X : Cx} {C : Addr} {m : Str} {ps : List Str} {k : Nat} {sp : Sp} {o : Expr} {ta : TE} {apos pos : Pos} {pl : Sem Bool} (he : PE X o ta) (h : HasM X.prog X.w X.K X.mg X.base C m ps k sp) (hr : Room k X.A)
    (ht : eval (.Call (.Attribute o m apos) [] [] pos) X.env = (do
      let ov ← eval o X.env
      standAt apos.atName
      let (f, first) ← holding [ov] (getMethod ov m pl)
      callWith pos f first (backTo pos (starEach [] X.env)) (backToKw pos (keywordEach [] X.env))) := by rfl) :
    PE X (.Call (.Attribute o m apos) [] [] pos) (tMeth C m sp [] E0 ta tNil) := by
  obtain ⟨f, fd, h1, h2, h3⟩ := h.ex
  exact pe_meth0 (pl := pl) he h.cl h1 h3 hr h2 .nil pass0 ht
/-- the class at C, made without arguments -/
structure HasC (P : Program) (w : World) (K : PySem.W.Frag) (mg : Str → Option Value) (base : Heap) (C : Addr) (x : Str) (ps : List Str) (k : Nat) (sp : Sp) : Prop where
  ex : ∃ (f : Addr) (fd : FuncData), mg x = some (.ref C) ∧ Mk K C f ∧ Binds K fd ps [] ∧ FnOk P w K mg base CX0 k f fd ps sp
theorem pe_hasC0 {X : Cx} {C : Addr} {x : Str} {ps : List Str} {k : Nat} {sp : Sp} {p pos : Pos} (h : HasC X.prog X.w X.K X.mg X.base C x ps k sp) (hr : Room (k + 1) X.A) (hg : Gl X x := by rfl) (hdb : (x == ("__debug__" : Str)) = false := by decide) :
    PE X (.Call (.Name x p) [] [] pos) (tMake C sp [] E0 tNil) := by
  obtain ⟨f, fd, h1, h2, h3, h4⟩ := h.ex
  exact pe_make0 h2 h4 hr hg h1 h3 .nil pass0 hdb
/-- a module's whole number -/
def IsI (mg : Str → Option Value) (x : Str) (n : Int) : Prop := ∃ t, mg x = some (.int n t)
theorem pe_ci {X : Cx} {x : Str} {n : Int} {pos : Pos} (h : IsI X.mg x n) (hg : Gl X x := by rfl) (hdb : (x == ("__debug__" : Str)) = false := by decide) : PE X (.Name x pos) (tC (.int n)) := by
  obtain ⟨t, h⟩ := h
  exact pe_glob hg h ⟨t, rfl⟩ hdb
end Oos
namespace Oos
open PySem PySem.Spec PyProof.Rows L2
def top (i : Nat) : Stmt := PySem.Challenge.pw_outofstep_s01_answers.main.body.getD i (.Pass ⟨0, 0, 0, 0⟩)
abbrev s_Descent___init__ : Stmt := inClass (top 4) 0
theorem sc_Descent___init__ : FnScope ["self"] ["self"] (defScope s_Descent___init__) := ⟨rfl, rfl, rfl, by decide +kernel, rfl, by decide +kernel, by decide +kernel⟩
abbrev s_Descent_begin : Stmt := inClass (top 4) 1
theorem sc_Descent_begin : FnScope ["self", "gap"] ["self", "gap"] (defScope s_Descent_begin) := ⟨rfl, rfl, rfl, by decide +kernel, rfl, by decide +kernel, by decide +kernel⟩
abbrev s_Descent_as_it_is : Stmt := inClass (top 4) 2
theorem sc_Descent_as_it_is : FnScope ["self"] ["self"] (defScope s_Descent_as_it_is) := ⟨rfl, rfl, rfl, by decide +kernel, rfl, by decide +kernel, by decide +kernel⟩
abbrev s_Descent_put_back : Stmt := inClass (top 4) 3
theorem sc_Descent_put_back : FnScope ["self", "kept"] ["self", "kept"] (defScope s_Descent_put_back) := ⟨rfl, rfl, rfl, by decide +kernel, rfl, by decide +kernel, by decide +kernel⟩
abbrev s_Descent_mark_change : Stmt := inClass (top 4) 4
theorem sc_Descent_mark_change : FnScope ["self"] ["self"] (defScope s_Descent_mark_change) := ⟨rfl, rfl, rfl, by decide +kernel, rfl, by decide +kernel, by decide +kernel⟩
abbrev s_Descent_take_back : Stmt := inClass (top 4) 5
theorem sc_Descent_take_back : FnScope ["self"] ["self"] (defScope s_Descent_take_back) := ⟨rfl, rfl, rfl, by decide +kernel, rfl, by decide +kernel, by decide +kernel⟩
abbrev s_Descent_do_again : Stmt := inClass (top 4) 6
theorem sc_Descent_do_again : FnScope ["self"] ["self"] (defScope s_Descent_do_again) := ⟨rfl, rfl, rfl, by decide +kernel, rfl, by decide +kernel, by decide +kernel⟩
abbrev s_is_counted : Stmt := top 5
theorem sc_is_counted : FnScope ["rule", "grade"] ["rule", "grade"] (defScope s_is_counted) := ⟨rfl, rfl, rfl, by decide +kernel, rfl, by decide +kernel, by decide +kernel⟩
abbrev s_first_generation : Stmt := top 6
theorem sc_first_generation : FnScope ["descent", "ages", "age", "men"] ["descent"] (defScope s_first_generation) := ⟨rfl, rfl, rfl, by decide +kernel, rfl, by decide +kernel, by decide +kernel⟩
abbrev s_next_generation : Stmt := top 7
theorem sc_next_generation : FnScope ["descent", "fathers", "ages", "came_in", "men", "x", "sons", "age"] ["descent", "fathers"] (defScope s_next_generation) := ⟨rfl, rfl, rfl, by decide +kernel, rfl, by decide +kernel, by decide +kernel⟩
abbrev s_generation : Stmt := top 8
theorem sc_generation : FnScope ["descent", "n", "ages", "step"] ["descent", "n"] (defScope s_generation) := ⟨rfl, rfl, rfl, by decide +kernel, rfl, by decide +kernel, by decide +kernel⟩
abbrev s_lost_sons : Stmt := top 9
theorem sc_lost_sons : FnScope ["descent", "fathers", "lost", "came_in", "men", "x", "sons"] ["descent", "fathers"] (defScope s_lost_sons) := ⟨rfl, rfl, rfl, by decide +kernel, rfl, by decide +kernel, by decide +kernel⟩
abbrev s_ages_at_births : Stmt := top 10
theorem sc_ages_at_births : FnScope ["descent", "x", "sons"] ["descent"] (defScope s_ages_at_births) := ⟨rfl, rfl, rfl, by decide +kernel, rfl, by decide +kernel, by decide +kernel⟩
abbrev s_with_sign : Stmt := top 12
theorem sc_with_sign : FnScope ["number"] ["number"] (defScope s_with_sign) := ⟨rfl, rfl, rfl, by decide +kernel, rfl, by decide +kernel, by decide +kernel⟩
abbrev s_common_divisor : Stmt := top 13
theorem sc_common_divisor : FnScope ["a", "b", "greater", "lesser", "rest"] ["a", "b"] (defScope s_common_divisor) := ⟨rfl, rfl, rfl, by decide +kernel, rfl, by decide +kernel, by decide +kernel⟩
abbrev s_ratio : Stmt := top 14
theorem sc_ratio : FnScope ["above", "below", "common", "told"] ["above", "below"] (defScope s_ratio) := ⟨rfl, rfl, rfl, by decide +kernel, rfl, by decide +kernel, by decide +kernel⟩
abbrev s_is_gap : Stmt := top 30
theorem sc_is_gap : FnScope ["g"] ["g"] (defScope s_is_gap) := ⟨rfl, rfl, rfl, by decide +kernel, rfl, by decide +kernel, by decide +kernel⟩
abbrev s_gs_start : Stmt := top 31
theorem sc_gs_start : FnScope ["descent", "given", "g"] ["descent", "given"] (defScope s_gs_start) := ⟨rfl, rfl, rfl, by decide +kernel, rfl, by decide +kernel, by decide +kernel⟩
abbrev s_gs_sons : Stmt := top 32
theorem sc_gs_sons : FnScope ["descent", "given", "x", "n", "before"] ["descent", "given"] (defScope s_gs_sons) := ⟨rfl, rfl, rfl, by decide +kernel, rfl, by decide +kernel, by decide +kernel⟩
abbrev s_gs_rule : Stmt := top 33
theorem sc_gs_rule : FnScope ["descent", "given", "a", "e"] ["descent", "given"] (defScope s_gs_rule) := ⟨rfl, rfl, rfl, by decide +kernel, rfl, by decide +kernel, by decide +kernel⟩
abbrev s_gs_free : Stmt := top 34
theorem sc_gs_free : FnScope ["descent", "given"] ["descent", "given"] (defScope s_gs_free) := ⟨rfl, rfl, rfl, by decide +kernel, rfl, by decide +kernel, by decide +kernel⟩
abbrev s_gs_first : Stmt := top 35
theorem sc_gs_first : FnScope ["descent", "given", "e", "n", "before"] ["descent", "given"] (defScope s_gs_first) := ⟨rfl, rfl, rfl, by decide +kernel, rfl, by decide +kernel, by decide +kernel⟩
abbrev s_gs_gap : Stmt := top 36
theorem sc_gs_gap : FnScope ["descent", "given", "g", "before"] ["descent", "given"] (defScope s_gs_gap) := ⟨rfl, rfl, rfl, by decide +kernel, rfl, by decide +kernel, by decide +kernel⟩
abbrev s_gs_total : Stmt := top 37
theorem sc_gs_total : FnScope ["descent", "given", "n"] ["descent", "given"] (defScope s_gs_total) := ⟨rfl, rfl, rfl, by decide +kernel, rfl, by decide +kernel, by decide +kernel⟩
abbrev s_gs_count : Stmt := top 38
theorem sc_gs_count : FnScope ["descent", "given", "n", "e"] ["descent", "given"] (defScope s_gs_count) := ⟨rfl, rfl, rfl, by decide +kernel, rfl, by decide +kernel, by decide +kernel⟩
abbrev s_gs_younger : Stmt := top 39
theorem sc_gs_younger : FnScope ["descent", "given", "n", "e"] ["descent", "given"] (defScope s_gs_younger) := ⟨rfl, rfl, rfl, by decide +kernel, rfl, by decide +kernel, by decide +kernel⟩
abbrev s_gs_between : Stmt := top 40
theorem sc_gs_between : FnScope ["descent", "given", "n", "low", "high", "ages", "within", "age", "men"] ["descent", "given"] (defScope s_gs_between) := ⟨rfl, rfl, rfl, by decide +kernel, rfl, by decide +kernel, by decide +kernel⟩
abbrev s_gs_mean : Stmt := top 41
theorem sc_gs_mean : FnScope ["descent", "given", "n", "ages", "together", "age", "men"] ["descent", "given"] (defScope s_gs_mean) := ⟨rfl, rfl, rfl, by decide +kernel, rfl, by decide +kernel, by decide +kernel⟩
abbrev s_gs_spread : Stmt := top 42
theorem sc_gs_spread : FnScope ["descent", "given", "n", "ages", "least", "greatest"] ["descent", "given"] (defScope s_gs_spread) := ⟨rfl, rfl, rfl, by decide +kernel, rfl, by decide +kernel, by decide +kernel⟩
abbrev s_gs_most : Stmt := top 43
theorem sc_gs_most : FnScope ["descent", "given", "n", "ages", "most", "least", "age", "men"] ["descent", "given"] (defScope s_gs_most) := ⟨rfl, rfl, rfl, by decide +kernel, rfl, by decide +kernel, by decide +kernel⟩
abbrev s_gs_lost : Stmt := top 44
theorem sc_gs_lost : FnScope ["descent", "given", "n", "fathers"] ["descent", "given"] (defScope s_gs_lost) := ⟨rfl, rfl, rfl, by decide +kernel, rfl, by decide +kernel, by decide +kernel⟩
abbrev s_gs_balance : Stmt := top 45
theorem sc_gs_balance : FnScope ["descent", "given", "sons"] ["descent", "given"] (defScope s_gs_balance) := ⟨rfl, rfl, rfl, by decide +kernel, rfl, by decide +kernel, by decide +kernel⟩
abbrev s_gs_each : Stmt := top 46
theorem sc_gs_each : FnScope ["descent", "given", "sons"] ["descent", "given"] (defScope s_gs_each) := ⟨rfl, rfl, rfl, by decide +kernel, rfl, by decide +kernel, by decide +kernel⟩
abbrev s_gs_told_sons : Stmt := top 47
theorem sc_gs_told_sons : FnScope ["descent", "given"] ["descent", "given"] (defScope s_gs_told_sons) := ⟨rfl, rfl, rfl, by decide +kernel, rfl, by decide +kernel, by decide +kernel⟩
abbrev s_gs_bounds : Stmt := top 48
theorem sc_gs_bounds : FnScope ["descent", "given", "a", "e"] ["descent", "given"] (defScope s_gs_bounds) := ⟨rfl, rfl, rfl, by decide +kernel, rfl, by decide +kernel, by decide +kernel⟩
abbrev s_gs_back : Stmt := top 49
theorem sc_gs_back : FnScope ["descent", "given"] ["descent", "given"] (defScope s_gs_back) := ⟨rfl, rfl, rfl, by decide +kernel, rfl, by decide +kernel, by decide +kernel⟩
abbrev s_gs_again : Stmt := top 50
theorem sc_gs_again : FnScope ["descent", "given"] ["descent", "given"] (defScope s_gs_again) := ⟨rfl, rfl, rfl, by decide +kernel, rfl, by decide +kernel, by decide +kernel⟩
abbrev s_told_rule : Stmt := top 51
theorem sc_told_rule : FnScope ["rule"] ["rule"] (defScope s_told_rule) := ⟨rfl, rfl, rfl, by decide +kernel, rfl, by decide +kernel, by decide +kernel⟩
abbrev s_gs_state : Stmt := top 52
theorem sc_gs_state : FnScope ["descent", "given", "changes"] ["descent", "given"] (defScope s_gs_state) := ⟨rfl, rfl, rfl, by decide +kernel, rfl, by decide +kernel, by decide +kernel⟩
abbrev s_answers : Stmt := top 55
theorem sc_answers : FnScope ["calls", "descent", "told", "at", "call", "size", "behind", "answer"] ["calls"] (defScope s_answers) := ⟨rfl, rfl, rfl, by decide +kernel, rfl, by decide +kernel, by decide +kernel⟩
end Oos
namespace Oos
open PySem PySem.Spec PyProof.Rows L2
/-- a whole number told with a sign -/
def signI (x : Int) : List Int := [if x < 0 then 1 else 0, (x.natAbs : Int)]
/-- a new list of whole numbers -/
def Gives (H : Hp) (l : List Int) (Q : VK) : Prop := ∀ H' p, Same H H' → H p = none → H' p = some (.lst (l.map V.int)) → Q (.ref p) H'
def spSign : Sp := fun vs H Q _ => ∃ x : Int, vs = [.int x] ∧ Gives H (signI x) Q
def spGcd : Sp := fun vs H Q _ => ∃ a b : Nat, vs = [.int a, .int b] ∧ Q (.int (Nat.gcd a b : Nat)) H
def spRatio : Sp := fun vs H Q _ => ∃ (w : Int) (t : Nat), vs = [.int w, .int t] ∧ 0 < t ∧ t < 1000000000 ∧ Gives H ((Km497.over w t).map fun (n : Nat) => (n : Int)) Q
section
variable {P : Program} {w : World} {K : PySem.W.Frag} {mg : Str → Option Value} {base : Heap}
theorem ok_with_sign {f : Addr} {fd : FuncData} (F : Fun K "with_sign" "with_sign" s_with_sign f fd)  :
    FnOk P w K mg base CX0 1 f fd ["number"] (spSign) := by
  refine F.ok sc_with_sign (fun vs H Q E h => ?_) (fun cdv A outer s H vs Q E hr h => ?_)
  · obtain ⟨x, rfl, _⟩ := h
    rfl
  · obtain ⟨x, rfl, q⟩ := h
    refine ⟨_, (pss_cons (ps_if (pt_cmpR op_lt (pv 0) pe_int (nomark _)) (pss_one (ps_ret (pe_lst (pa_cons pe_int (pa_cons (pe_un un_neg (pv 0)) pa_nil))))) pss_nil)
      (pss_one (ps_ret (pe_lst (pa_cons pe_int (pa_cons (pv 0) pa_nil)))))), ?_⟩
    refine ⟨_, rfl, _, _, rfl, rfl, _, rfl, ?_⟩
    refine ite2 (fun e => ?_) (fun e => ?_)
    · have e := of_decide_eq_true e
      refine ⟨_, rfl, _, rfl, (by show 2 ≤ sizeLine; decide), fun p np => q _ p (same_upd np) np ?_⟩
      rw [upd_same]
      unfold signI
      rw [if_pos e, show ((x.natAbs : Nat) : Int) = -x by omega]; rfl
    · have e : ¬ x < 0 := fun z => e (decide_eq_true z)
      refine ⟨_, rfl, (by show 2 ≤ sizeLine; decide), fun p np => q _ p (same_upd np) np ?_⟩
      rw [upd_same]
      unfold signI
      rw [if_neg e, show ((x.natAbs : Nat) : Int) = x by omega]; rfl
theorem ok_common_divisor {f : Addr} {fd : FuncData} (F : Fun K "common_divisor" "common_divisor" s_common_divisor f fd)  :
    FnOk P w K mg base CX0 1 f fd ["a", "b"] (spGcd) := by
  refine F.ok sc_common_divisor (fun vs H Q E h => ?_) (fun cdv A outer s H vs Q E hr h => ?_)
  · obtain ⟨a, b, rfl, _⟩ := h
    rfl
  · obtain ⟨a, b, rfl, q⟩ := h
    refine ⟨_, (pss_cons (ps_set (i := 2) sc_common_divisor.nd rfl (.inl rfl) (pv 0))
      (pss_cons (ps_set (i := 3) sc_common_divisor.nd rfl (.inl rfl) (pv 1))
      (pss_cons (ps_while PassesOwn.never (pt_cmpR op_gt (pv 3) pe_int (nomark _)) (pss_cons (ps_set (i := 4) sc_common_divisor.nd rfl (.inl rfl) (pe_op op_modN (pv 2) (pv 3))) (pss_cons (ps_set (i := 2) sc_common_divisor.nd rfl (.inl rfl) (pv 3)) (pss_one (ps_set (i := 3) sc_common_divisor.nd rfl (.inl rfl) (pv 4))))))
      (pss_one (ps_ret (pv 2)))))), ?_⟩
    refine ⟨_, rfl, _, rfl, ?_⟩
    refine ⟨fun m σ H1 => ∃ (x y : Nat) (r : Option V), m = y ∧ σ = [some (.int a), some (.int b), some (.int x), some (.int y), r] ∧ H1 = H ∧ Nat.gcd x y = Nat.gcd a b, ⟨b, a, b, none, rfl, rfl, rfl, rfl⟩, fun m σ H1 hW => ?_⟩
    obtain ⟨x, y, r, em, rfl, rfl, hg⟩ := hW
    refine ⟨_, rfl, _, _, rfl, rfl, _, rfl, ?_⟩
    refine ite2 (fun e => ?_) (fun e => ?_)
    · have e : (0 : Int) < y := of_decide_eq_true e
      refine ⟨fun σ' H' => ∃ r : Option V, σ' = [some (.int a), some (.int b), some (.int y), some (.int ((x % y : Nat) : Int)), r] ∧ H' = H1, fun σ' H' hN => ?_, ?_⟩
      · obtain ⟨r', e1, e2⟩ := hN
        refine ⟨x % y, ?_, y, x % y, r', rfl, e1, e2, ?_⟩
        · rw [em]; exact Nat.mod_lt _ (by omega)
        · rw [← hg, Nat.gcd_comm x y, Nat.gcd_rec y x, Nat.gcd_comm]
      refine ⟨_, rfl, _, rfl, _, _, rfl, rfl, (by omega : (y : Int) ≠ 0), _, rfl, _, rfl, ?_⟩
      refine ⟨some (.int ((x % y : Nat) : Int)), ?_, rfl⟩
      show [some (V.int a), some (V.int b), some (V.int y), some (V.int ((x : Int).fmod (y : Int))), some (V.int ((x : Int).fmod (y : Int)))] = _
      rw [show ((x : Int).fmod (y : Int)) = ((x % y : Nat) : Int) by rw [Int.fmod_eq_emod_of_nonneg _ (by omega)]; rfl]
    · have e : ¬ (0 : Int) < y := fun z => e (decide_eq_true z)
      have y0 : y = 0 := by omega
      subst y0
      rw [Nat.gcd_zero_right] at hg
      refine ⟨_, rfl, ?_⟩
      rw [hg]
      exact q
theorem ok_ratio {f : Addr} {fd : FuncData} (F : Fun K "ratio" "ratio" s_ratio f fd) (f_common_divisor : Has P w K mg base "common_divisor" ["a", "b"] 1 (spGcd)) (b_abs : mg "abs" = none) (f_with_sign : Has P w K mg base "with_sign" ["number"] 1 (spSign)) :
    FnOk P w K mg base CX0 2 f fd ["above", "below"] (spRatio) := by
  refine F.ok sc_ratio (fun vs H Q E h => ?_) (fun cdv A outer s H vs Q E hr h => ?_)
  · obtain ⟨x, t, rfl, _⟩ := h
    rfl
  · obtain ⟨x, t, rfl, t0, t1, q⟩ := h
    refine ⟨_, (pss_cons (ps_set (i := 2) sc_ratio.nd rfl (.inl rfl) (pe_has f_common_divisor (hr.mono (by decide)) (pa_cons (pe_callB call_abs (by rfl) b_abs (by decide +kernel) (pa_cons (pv 0) pa_nil)) (pa_cons (pv 1) pa_nil))))
      (pss_cons (ps_set (i := 3) sc_ratio.nd rfl (.inl rfl) (pe_has f_with_sign (hr.mono (by decide)) (pa_cons (pv 0) pa_nil)))
      (pss_one (ps_ret (pe_lst (pa_cons (pe_ix ix_list (pv 3) pe_int (fun _ _ => rfl)) (pa_cons (pe_op op_fdivN (pe_ix ix_list (pv 3) pe_int (fun _ _ => rfl)) (pv 2)) (pa_cons (pe_op op_fdivN (pv 1) (pv 2)) pa_nil)))))))), ?_⟩
    have eabs : (if x < 0 then -x else x) = ((x.natAbs : Nat) : Int) := by
      by_cases c : x < 0
      · rw [if_pos c]; omega
      · rw [if_neg c]; omega
    refine ⟨_, rfl, _, rfl, _, rfl, x.natAbs, t, ?_, ?_⟩
    · rw [eabs]; rfl
    have g0 : 0 < Nat.gcd x.natAbs t := Nat.gcd_pos_of_pos_right _ t0
    have g1 : Nat.gcd x.natAbs t ≤ t := Nat.gcd_le_right _ t0
    refine ⟨_, rfl, x, rfl, fun H1 p1 s1 n1 e1 => ?_⟩
    have dv : ((Nat.gcd x.natAbs t : Nat) : Int) ≠ 0 ∧ ((Nat.gcd x.natAbs t : Nat) : Int).natAbs < 1073741824 := ⟨by omega, by omega⟩
    refine ⟨_, rfl, p1, _, 0, _, rfl, rfl, SqL.of e1, atI_nat (j := 0) rfl, _, rfl, p1, _, 1, _, rfl, rfl, SqL.of e1, atI_nat (j := 1) rfl, _, rfl, _, _, rfl, rfl, dv, _, rfl, _, rfl, _, _, rfl, rfl, dv, (by show 3 ≤ sizeLine; decide), fun p np => ?_⟩
    refine q _ p (s1.trans (same_upd np)) (s1.free np) ?_
    rw [upd_same, over_is x t t0]
    dsimp only
    rw [Int.fdiv_eq_ediv_of_nonneg _ (by omega), Int.fdiv_eq_ediv_of_nonneg _ (by omega)]
    by_cases c : x < 0
    · rw [if_pos c, if_pos c]; rfl
    · rw [if_neg c, if_neg c]; rfl
end
end Oos
namespace Oos
open PySem PySem.Spec PyProof.Rows L2
open Km497 (Book)
/-! ### the object -/
theorem lk_here {k : Str} {v : V} {r : List (Str × V)} : List.lookup k ((k, v) :: r) = some v := by
  have e : (k == k) = true := beq_self_eq_true k
  simp only [List.lookup, e]
theorem lk_past {k g : Str} {v : V} {r : List (Str × V)} (h : (k == g) = false) : List.lookup k ((g, v) :: r) = List.lookup k r := by
  simp only [List.lookup, h]
theorem put_here {f : Str} {v x : V} {r : List (Str × V)} : putF f v ((f, x) :: r) = (f, v) :: r := if_pos rfl
theorem put_past {f g : Str} {v x : V} {r : List (Str × V)} (h : ¬ g = f) : putF f v ((g, x) :: r) = (g, x) :: putF f v r := if_neg h
def RuleV (H : Hp) (rv : V) : Option (Nat × Nat) → Prop
  | none => rv = .non
  | some r => ∃ t, rv = .ref t ∧ H t = some (.tup [.int (r.1 : Nat), .int (r.2 : Nat)])
theorem RuleV.same {H H' : Hp} {rv : V} (s : Same H H') : ∀ {r : Option (Nat × Nat)}, RuleV H rv r → RuleV H' rv r
  | none, h => h
  | some r, ⟨t, h1, h2⟩ => ⟨t, h1, s _ _ h2⟩
/-- the places that the queries don't read: the instance's dict, the changes' two lists -/
structure Dx where
  d : Addr
  le : Addr
  ll : Addr
def flds (g : Nat) (ls lf : Addr) (rv : V) (x : Dx) : List (Str × V) := [("gap", .int (g : Int)), ("sons", .ref ls), ("firsts", .ref lf), ("rule", rv), ("earlier", .ref x.le), ("later", .ref x.ll)]
theorem flds_gap (g : Nat) (ls lf : Addr) (rv : V) (x : Dx) : (flds g ls lf rv x).lookup ("gap" : Str) = some (.int (g : Int)) := lk_here
theorem flds_sons (g : Nat) (ls lf : Addr) (rv : V) (x : Dx) : (flds g ls lf rv x).lookup ("sons" : Str) = some (.ref ls) := (lk_past (by decide +kernel)).trans (lk_here)
theorem flds_firsts (g : Nat) (ls lf : Addr) (rv : V) (x : Dx) : (flds g ls lf rv x).lookup ("firsts" : Str) = some (.ref lf) := (lk_past (by decide +kernel)).trans ((lk_past (by decide +kernel)).trans (lk_here))
theorem flds_rule (g : Nat) (ls lf : Addr) (rv : V) (x : Dx) : (flds g ls lf rv x).lookup ("rule" : Str) = some rv := (lk_past (by decide +kernel)).trans ((lk_past (by decide +kernel)).trans ((lk_past (by decide +kernel)).trans (lk_here)))
theorem flds_earlier (g : Nat) (ls lf : Addr) (rv : V) (x : Dx) : (flds g ls lf rv x).lookup ("earlier" : Str) = some (.ref x.le) := (lk_past (by decide +kernel)).trans ((lk_past (by decide +kernel)).trans ((lk_past (by decide +kernel)).trans ((lk_past (by decide +kernel)).trans (lk_here))))
theorem flds_later (g : Nat) (ls lf : Addr) (rv : V) (x : Dx) : (flds g ls lf rv x).lookup ("later" : Str) = some (.ref x.ll) := (lk_past (by decide +kernel)).trans ((lk_past (by decide +kernel)).trans ((lk_past (by decide +kernel)).trans ((lk_past (by decide +kernel)).trans ((lk_past (by decide +kernel)).trans (lk_here)))))
/-- the object at a holds the book b -/
structure Obj4 (C : Addr) (H : Hp) (a : Addr) (dx : Dx) (ls lf : Addr) (rv : V) (fs : List Nat) (b : Book) : Prop where
  o : H a = some (.ins C dx.d (flds b.gap ls lf rv dx))
  s : H ls = some (.lst (nums b.sons))
  f : H lf = some (.lst (nums fs))
  fl : fs.length = 21
  fe : b.first = firstRow fs
  r : RuleV H rv b.rule
theorem Obj4.same {C : Addr} {H H' : Hp} {a ls lf : Addr} {dx : Dx} {rv : V} {fs : List Nat} {b : Book} (h : Obj4 C H a dx ls lf rv fs b) (s : Same H H') : Obj4 C H' a dx ls lf rv fs b :=
  ⟨s _ _ h.o, s _ _ h.s, s _ _ h.f, h.fl, h.fe, h.r.same s⟩
/-- a dict's place changed -/
theorem Obj4.off {C : Addr} {H : Hp} {a ls lf : Addr} {dx : Dx} {rv : V} {fs : List Nat} {b : Book} (h : Obj4 C H a dx ls lf rv fs b) {f : Addr} {kvs : List (Key × V)} {o : HO} (hf : H f = some (.dK kvs)) : Obj4 C (upd H f o) a dx ls lf rv fs b := by
  refine ⟨?_, ?_, ?_, h.fl, h.fe, ?_⟩
  · rw [upd_ne (ne_of h.o hf (by intro z; cases z))]; exact h.o
  · rw [upd_ne (ne_of h.s hf (by intro z; cases z))]; exact h.s
  · rw [upd_ne (ne_of h.f hf (by intro z; cases z))]; exact h.f
  · have hr := h.r
    cases e : b.rule with
    | none =>
      rw [e] at hr
      exact hr
    | some r =>
      rw [e] at hr
      obtain ⟨t, h1, h2⟩ := hr
      exact ⟨t, h1, by rw [upd_ne (ne_of h2 hf (by intro z; cases z))]; exact h2⟩
/-- what the top has written of the class -/
structure TxtC (K : PySem.W.Frag) (C : Addr) : Prop where
  cl : Cls K C
  nG : NoAttr K C "gap"
  nS : NoAttr K C "sons"
  nF : NoAttr K C "firsts"
  nR : NoAttr K C "rule"
  nE : NoAttr K C "earlier"
  nL : NoAttr K C "later"
def spCounted : Sp := fun vs H Q _ => ∃ (rv : V) (g : Int) (r : Option (Nat × Nat)), vs = [rv, .int g] ∧ RuleV H rv r ∧ Q (.bl (counted r g)) H
def spFirstG (C : Addr) : Sp := fun vs H Q _ => ∃ (a : Addr) (dx : Dx) (ls lf : Addr) (rv : V) (fs : List Nat) (b : Book), vs = [.ref a] ∧ Obj4 C H a dx ls lf rv fs b ∧
  ∀ H' p, Same H H' → H p = none → H' p = some (.dK (enc (d0 fs 21))) → Q (.ref p) H'
def spNextG (C : Addr) : Sp := fun vs H Q _ => ∃ (a : Addr) (dx : Dx) (ls lf f : Addr) (rv : V) (fs : List Nat) (b : Book) (d : D), vs = [.ref a, .ref f] ∧ Obj4 C H a dx ls lf rv fs b ∧ b.sons.length = 13 ∧ (∀ n ∈ b.sons, n ≤ 9) ∧
  H f = some (.dK (enc d)) ∧ d.length ≤ 100000 ∧ ∀ H' p, Same H H' → H p = none → H' p = some (.dK (enc (nextD b [] d))) → Q (.ref p) H'
def spGen (C : Addr) : Sp := fun vs H Q _ => ∃ (a : Addr) (dx : Dx) (ls lf : Addr) (rv : V) (fs : List Nat) (b : Book) (n : Nat), vs = [.ref a, .int (n : Int)] ∧ n ≤ 3 ∧ Obj4 C H a dx ls lf rv fs b ∧ b.sons.length = 13 ∧ (∀ n ∈ b.sons, n ≤ 9) ∧
  ∀ H' p, Same H H' → H p = none → H' p = some (.dK (enc (genD b fs n))) → Q (.ref p) H'
section
variable {P : Program} {w : World} {K : PySem.W.Frag} {mg : Str → Option Value} {base : Heap} {C : Addr}
theorem ok_is_counted {f : Addr} {fd : FuncData} (F : Fun K "is_counted" "is_counted" s_is_counted f fd)  :
    FnOk P w K mg base CX0 1 f fd ["rule", "grade"] (spCounted) := by
  refine F.ok sc_is_counted (fun vs H Q E h => ?_) (fun cdv A outer s H vs Q E hr h => ?_)
  · obtain ⟨rv, g, r, rfl, _⟩ := h
    rfl
  · obtain ⟨rv, g, r, rfl, hR, q⟩ := h
    refine ⟨_, (pss_cons (ps_if (pt_cmpR op_isN (pv 0) pe_non (nomark _)) (pss_one (ps_ret pe_bl)) pss_nil)
      (pss_one (ps_ret (pe_and (pe_cmpR op_le (pe_ix ix_tup (pv 0) pe_int (fun _ _ => rfl)) (pv 1) (nomark _)) (pe_one (pe_cmpR op_lt (pv 1) (pe_ix ix_tup (pv 0) pe_int (fun _ _ => rfl)) (nomark _))))))), ?_⟩
    refine ⟨_, rfl, rfl, _, rfl, ?_⟩
    cases r with
    | none =>
      cases (show rv = .non from hR)
      exact iteT q
    | some r =>
      obtain ⟨t, rfl, ht⟩ := hR
      refine iteF ?_
      refine ⟨_, rfl, t, _, 0, _, rfl, rfl, SqT.of ht, atI_nat (j := 0) rfl, _, rfl, _, _, rfl, rfl, _, rfl, ?_⟩
      by_cases c : (r.1 : Int) ≤ g
      · rw [if_pos (decide_eq_true c)]
        refine ⟨_, rfl, _, rfl, t, _, 1, _, rfl, rfl, SqT.of ht, atI_nat (j := 1) rfl, _, _, rfl, rfl, ?_⟩
        have e : counted (some r) g = decide (g < (r.2 : Int)) := by
          show (decide ((r.1 : Int) ≤ g) && decide (g < (r.2 : Int))) = _
          rw [decide_eq_true c, Bool.true_and]
        rw [e] at q
        exact q
      · rw [if_neg (fun z => c (of_decide_eq_true z))]
        have e : counted (some r) g = false := by
          show (decide ((r.1 : Int) ≤ g) && decide (g < (r.2 : Int))) = _
          rw [decide_eq_false c, Bool.false_and]
        rw [e] at q
        exact q
theorem ok_first_generation {f : Addr} {fd : FuncData} (F : Fun K "first_generation" "first_generation" s_first_generation f fd) (T : TxtC K C) (b_enumerate : mg "enumerate" = none) :
    FnOk P w K mg base CX0 1 f fd ["descent"] (spFirstG C) := by
  refine F.ok sc_first_generation (fun vs H Q E h => ?_) (fun cdv A outer s H vs Q E hr h => ?_)
  · obtain ⟨a, dx, ls, lf, rv, fs, b, rfl, _⟩ := h
    rfl
  · obtain ⟨a, dx, ls, lf, rv, fs, b, rfl, O, q⟩ := h
    refine ⟨_, (pss_cons (ps_set (i := 1) sc_first_generation.nd rfl (.inl rfl) pe_dnewK)
      (pss_cons (ps_for PassesOwn.never rfl (pi_enum (by rfl) b_enumerate (pa_cons (pe_fld (pv 0) rfl) pa_nil)) (pg_tup rfl (pgs_cons (pg_name (i := 2) sc_first_generation.nd rfl (.inl rfl)) (pgs_cons (pg_name (i := 3) sc_first_generation.nd rfl (.inl rfl)) pgs_nil))) (pss_one (ps_if (pt_cmpR op_gt (pv 3) pe_int (nomark _)) (pss_one (ps_dput (hu_of hr) (pv 1) (pv 2) (pv 3) rfl)) pss_nil)))
      (pss_one (ps_ret (pv 1))))), ?_⟩
    intro o no
    have s1 : Same H (upd H o (.dK [])) := same_upd no
    have O1 := O.same s1
    refine ⟨_, rfl, a, C, dx.d, _, _, rfl, O1.o, T.cl, T.nF, flds_firsts _ _ _ _ _, lf, _, rfl, SqL.of O1.f, ?_⟩
    refine for_it (walk_enums (K := K) (a := lf) (l := fs)) (fun i σ H' => ∃ y2 y3, σ = [some (.ref a), some (.ref o), y2, y3] ∧ Same H H' ∧ H' o = some (.dK (enc (d0 fs i)))) ⟨none, none, rfl, s1, upd_same⟩ ?_ ?_ ?_
    · rintro i σ H' _ ⟨_, _, _, s5, _⟩
      exact SqL.of (O.same s5).f
    · rintro i v σ H' H2 hi ⟨y2, y3, rfl, s5, eo⟩ ⟨T', rfl, nT, rfl⟩
      have nTo : o ≠ T' := ne_of_none eo nT
      have smT : Same H' (upd H' T' (.tup [.int (i : Nat), .int (fs.getD i 0 : Nat)])) := same_upd nT
      refine ⟨T', _, rfl, .inl (.inl upd_same), rfl, _, _, rfl, _, _, rfl, rfl, ?_⟩
      refine ⟨_, rfl, _, _, rfl, rfl, _, rfl, ite2 (fun e => ?_) (fun e => ?_)⟩
      · have e : (0 : Int) < (fs.getD i 0 : Nat) := of_decide_eq_true e
        have eoT := smT _ _ eo
        refine ⟨_, rfl, _, rfl, _, rfl, o, _, rfl, DPut.k (k := Sum.inl (i : Int)) eoT ?_, ?_⟩
        · rw [enc_len]
          exact small1000 (by have := d0_len fs i; rw [O.fl] at hi; omega)
        · refine ⟨_, _, rfl, Same.over (s5.trans smT) no, ?_⟩
          rw [upd_same, putK_enc]
          have : d0 fs (i + 1) = put (d0 fs i) (i : Int) (fs.getD i 0 : Int) := if_pos (by omega)
          rw [this]
      · have e : ¬ (0 : Int) < (fs.getD i 0 : Nat) := fun z => e (decide_eq_true z)
        refine ⟨_, _, rfl, s5.trans smT, ?_⟩
        have : d0 fs (i + 1) = d0 fs i := if_neg (by omega)
        rw [this]
        exact smT _ _ eo
    · rintro σ H' ⟨y2, y3, rfl, s5, eo⟩
      rw [O.fl] at eo
      exact ⟨_, rfl, q H' o s5 no eo⟩
theorem ok_next_generation {f : Addr} {fd : FuncData} (F : Fun K "next_generation" "next_generation" s_next_generation f fd) (T : TxtC K C) (b_enumerate : mg "enumerate" = none) (f_is_counted : Has P w K mg base "is_counted" ["rule", "grade"] 1 (spCounted)) :
    FnOk P w K mg base CX0 2 f fd ["descent", "fathers"] (spNextG C) := by
  refine F.ok sc_next_generation (fun vs H Q E h => ?_) (fun cdv A outer s H vs Q E hr h => ?_)
  · obtain ⟨a, dx, ls, lf, f, rv, fs, b, d, rfl, _⟩ := h
    rfl
  · obtain ⟨a, dx, ls, lf, f, rv, fs, b, d, rfl, O, sl, s9, hf, dl, q⟩ := h
    refine ⟨_, (pss_cons (ps_set (i := 2) sc_next_generation.nd rfl (.inl rfl) pe_dnewK)
      (pss_cons (ps_lock (ps_for PassesOwn.never rfl (pi_items (pv 1)) (pg_tup rfl (pgs_cons (pg_name (i := 3) sc_next_generation.nd rfl (.inl rfl)) (pgs_cons (pg_name (i := 4) sc_next_generation.nd rfl (.inl rfl)) pgs_nil))) (pss_one (ps_for PassesOwn.never rfl (pi_enum (by rfl) b_enumerate (pa_cons (pe_fld (pv 0) rfl) pa_nil)) (pg_tup rfl (pgs_cons (pg_name (i := 5) sc_next_generation.nd rfl (.inl rfl)) (pgs_cons (pg_name (i := 6) sc_next_generation.nd rfl (.inl rfl)) pgs_nil))) (pss_one (ps_if (PW.pt (pw_and (pt_cmpR op_gt (pv 6) pe_int (nomark _)) (pw_and1 (pt_val (pe_has f_is_counted (hr.mono (by decide)) (pa_cons (pe_fld (pv 0) rfl) (pa_cons (pe_op op_sub (pv 5) (pv 3)) pa_nil))))))) (pss_cons (ps_set (i := 7) sc_next_generation.nd rfl (.inl rfl) (pe_op op_sub (pe_op op_add (pv 3) (pe_fld (pv 0) rfl)) (pv 5))) (pss_one (ps_dput (hu_of hr) (pv 2) (pv 7) (pe_op op_add (pe_dget2 (hu_of hr) (pv 2) (pv 7) pe_int ⟨rfl, rfl, rfl, rfl⟩) (pe_op op_mul (pv 4) (pv 6))) rfl))) pss_nil))))))
      (pss_one (ps_ret (pv 2))))), ?_⟩
    intro o no
    have s1 : Same H (upd H o (.dK [])) := same_upd no
    refine ⟨f, .dK (enc d), s1 _ _ hf, trivial, fun od => ?_⟩
    have hof : o ≠ f := (ne_of_none hf no).symm
    have O' : Obj4 C (upd H f (.frz od (.dK (enc d)))) a dx ls lf rv fs b := O.off hf
    have no' : (upd H f (.frz od (.dK (enc d)))) o = none := by rw [upd_ne hof]; exact no
    have s2 : Same (upd H f (.frz od (.dK (enc d)))) (upd (upd H o (.dK [])) f (.frz od (.dK (enc d)))) := fun b' x e => by
      by_cases c : b' = f
      · subst c
        rw [upd_same] at e ⊢
        exact e
      · rw [upd_ne c] at e ⊢
        exact s1 _ _ e
    refine ⟨_, rfl, f, od, enc d, rfl, upd_same, ?_⟩
    refine for_it (walk_encs (f := f) (od := od) (d := d)) (fun i σ H' => ∃ y3 y4 y5 y6 y7, σ = [some (.ref a), some (.ref f), some (.ref o), y3, y4, y5, y6, y7] ∧ Same (upd H f (.frz od (.dK (enc d)))) H' ∧ H' o = some (.dK (enc (nextD b [] (d.take i)))))
      ⟨none, none, none, none, none, rfl, s2, by rw [upd_ne hof, upd_same]; rfl⟩ ?_ ?_ ?_
    · rintro i σ H' _ ⟨_, _, _, _, _, _, s5, _⟩
      exact s5 _ _ upd_same
    · rintro i v σ H' H2 hi ⟨y3, y4, y5, y6, y7, rfl, s5, eo⟩ ⟨T', ⟨e, m⟩, hp, rfl, nT, rfl⟩
      have smT : Same H' (upd H' T' (.tup [.int e, .int m])) := same_upd nT
      have eoT := smT _ _ eo
      have s6 := s5.trans smT
      have O6 := O'.same s6
      have step : nextD b [] (d.take (i + 1)) = sonsD b e m (nextD b [] (d.take i)) 13 := by
        rw [List.take_add_one, hp, nextD_append]
        rfl
      generalize hacc : nextD b [] (d.take i) = acc at *
      have accl : acc.length ≤ 1300000 := by
        have h1 := nextD_len b (d.take i) []
        rw [hacc, List.length_take] at h1
        simp at h1
        omega
      refine ⟨T', _, rfl, .inl (.inl upd_same), rfl, _, _, rfl, _, _, rfl, rfl, ?_⟩
      refine ⟨_, rfl, a, C, dx.d, _, _, rfl, O6.o, T.cl, T.nS, flds_sons _ _ _ _ _, ls, _, rfl, SqL.of O6.s, ?_⟩
      refine for_it (walk_enums (K := K) (a := ls) (l := b.sons)) (fun k σ H' => ∃ y5 y6 y7, σ = [some (.ref a), some (.ref f), some (.ref o), some (.int e), some (.int m), y5, y6, y7] ∧ Same (upd H f (.frz od (.dK (enc d)))) H' ∧ H' o = some (.dK (enc (sonsD b e m acc k))))
        ⟨_, _, _, rfl, s6, eoT⟩ ?_ ?_ ?_
      · rintro k σ H' _ ⟨_, _, _, _, s7, _⟩
        exact SqL.of (O'.same s7).s
      · rintro k v σ H' H2 hk ⟨y5, y6, y7, rfl, s7, eo⟩ ⟨T', rfl, nT, rfl⟩
        have smT : Same H' (upd H' T' (.tup [.int (k : Nat), .int (b.sons.getD k 0 : Nat)])) := same_upd nT
        have s8 := s7.trans smT
        have O8 := O'.same s8
        have eo8 := smT _ _ eo
        refine ⟨T', _, rfl, .inl (.inl upd_same), rfl, _, _, rfl, _, _, rfl, rfl, ?_⟩
        refine ⟨_, rfl, _, _, rfl, rfl, _, rfl, ?_⟩
        have w9 : b.w k ≤ 9 := by
          show b.sons.getD k 0 ≤ 9
          rw [List.getD_eq_getElem?_getD, List.getElem?_eq_getElem hk]
          exact s9 _ (List.getElem_mem hk)
        refine ite2 (fun c1 => ?_) (fun c1 => ?_)
        · have c1 : (0 : Int) < (b.w k : Nat) := of_decide_eq_true c1
          refine ⟨_, rfl, a, C, dx.d, _, _, rfl, O8.o, T.cl, T.nR, flds_rule _ _ _ _ _, _, rfl, _, rfl, _, _, rfl, rfl, rv, _, b.rule, rfl, O8.r, _, rfl, ?_⟩
          refine ite2 (fun c2 => ?_) (fun c2 => ?_)
          · have st : sonsD b e m acc (k + 1) = add (sonsD b e m acc k) (e + (b.gap : Int) - (k : Int)) (m * (b.w k : Int)) := if_pos ⟨by omega, c2⟩
            refine ⟨_, rfl, _, rfl, a, C, dx.d, _, _, rfl, O8.o, T.cl, T.nG, flds_gap _ _ _ _ _, _, _, rfl, rfl, _, rfl, _, _, rfl, rfl, ?_⟩
            refine ⟨_, rfl, o, rfl, .inl ⟨_, .inl eo8⟩, _, rfl, _, DGet.k (k := Sum.inl (e + (b.gap : Int) - (k : Int))) eo8, _, rfl, _, rfl, _, _, rfl, rfl, .inr ⟨(by show -(2 ^ 64) < ((b.w k : Nat) : Int); omega), (by show ((b.w k : Nat) : Int) < 2 ^ 64; omega)⟩, ?_⟩
            rw [getD_enc]
            refine ⟨_, _, rfl, rfl, _, rfl, _, rfl, o, _, rfl, DPut.k (k := Sum.inl (e + (b.gap : Int) - (k : Int))) eo8 ?_, ?_⟩
            · rw [enc_len]
              have h1 := sonsD_len b e m acc k
              rw [sizeLine_eq]
              omega
            · refine ⟨_, _, _, rfl, Same.over s8 no', ?_⟩
              rw [upd_same, putK_enc, st]
              rfl
          · have st : sonsD b e m acc (k + 1) = sonsD b e m acc k := if_neg (fun z => c2 z.2)
            exact ⟨_, _, _, rfl, s8, by rw [st]; exact eo8⟩
        · have c1 : ¬ (0 : Int) < (b.w k : Nat) := fun z => c1 (decide_eq_true z)
          have st : sonsD b e m acc (k + 1) = sonsD b e m acc k := if_neg (fun z => c1 (by omega))
          exact ⟨_, _, _, rfl, s8, by rw [st]; exact eo8⟩
      · rintro σ H' ⟨y5, y6, y7, rfl, s7, eo⟩
        rw [sl] at eo
        exact ⟨_, _, _, _, _, rfl, s7, by rw [step]; exact eo⟩
    · rintro σ H' ⟨y3, y4, y5, y6, y7, rfl, s5, eo⟩
      rw [List.take_length] at eo
      refine ⟨s5 _ _ upd_same, _, rfl, ?_⟩
      refine q _ o (fun b' x e => ?_) no (by rw [upd_ne hof]; exact eo)
      by_cases c : b' = f
      · subst c
        rw [upd_same]
        exact hf.symm.trans e
      · rw [upd_ne c]
        exact s5 _ _ (by rw [upd_ne c]; exact e)
theorem ok_generation {f : Addr} {fd : FuncData} (F : Fun K "generation" "generation" s_generation f fd) (f_first_generation : Has P w K mg base "first_generation" ["descent"] 1 (spFirstG C)) (b_range : mg "range" = none) (f_next_generation : Has P w K mg base "next_generation" ["descent", "fathers"] 2 (spNextG C)) :
    FnOk P w K mg base CX0 3 f fd ["descent", "n"] (spGen C) := by
  refine F.ok sc_generation (fun vs H Q E h => ?_) (fun cdv A outer s H vs Q E hr h => ?_)
  · obtain ⟨a, dx, ls, lf, rv, fs, b, n, rfl, _⟩ := h
    rfl
  · obtain ⟨a, dx, ls, lf, rv, fs, b, n, rfl, n3, O, sl, s9, q⟩ := h
    refine ⟨_, (pss_cons (ps_set (i := 2) sc_generation.nd rfl (.inl rfl) (pe_has f_first_generation (hr.mono (by decide)) (pa_cons (pv 0) pa_nil)))
      (pss_cons (ps_for PassesOwn.never rfl (pi_range1 rfl b_range (pa_cons (pv 1) pa_nil)) (pg_name (i := 3) sc_generation.nd rfl (.inl rfl)) (pss_one (ps_set (i := 2) sc_generation.nd rfl (.inl rfl) (pe_has f_next_generation (hr.mono (by decide)) (pa_cons (pv 0) (pa_cons (pv 2) pa_nil))))))
      (pss_one (ps_ret (pv 2))))), ?_⟩
    refine ⟨_, rfl, a, dx, ls, lf, rv, fs, b, rfl, O, fun H1 p1 s1 n1 e1 => ?_⟩
    refine ⟨_, rfl, (n : Int), rfl, by omega, by omega, ?_⟩
    refine for_range (lo := 0) (n := ((n : Int)).toNat) (fun i σ H' => ∃ (y3 : Option V) (p : Addr), σ = [some (.ref a), some (.int (n : Int)), some (.ref p), y3] ∧ Same H H' ∧ H p = none ∧ H' p = some (.dK (enc (genD b fs i)))) ⟨none, p1, rfl, s1, n1, e1⟩ ?_ ?_
    · rintro i σ H' hi ⟨y3, p, rfl, s5, np, ep⟩
      have hl : (genD b fs i).length ≤ 100000 := by
        have h1 := gen_len b fs i
        have h2 : 13 ^ i ≤ 13 ^ 3 := Nat.pow_le_pow_right (by decide) (by omega)
        omega
      refine ⟨_, rfl, _, rfl, a, dx, ls, lf, p, rv, fs, b, genD b fs i, rfl, O.same s5, sl, s9, ep, hl, fun H2 p2 s2 n2 e2 => ?_⟩
      exact ⟨_, p2, rfl, s5.trans s2, s5.free n2, e2⟩
    · rintro σ H' ⟨y3, p, rfl, s5, np, ep⟩
      exact ⟨_, rfl, q H' p s5 np ep⟩
end
end Oos
namespace Oos
open PySem PySem.Spec PyProof.Rows L2
/-! ### sum(d.values()) of a dict of whole numbers -/
theorem preSum_of (is : List Int) : ∀ n : Nat, n ≤ is.length → preSum (fun i => is.getD i 0) n = (is.take n).sum
  | 0, _ => rfl
  | n + 1, h => by
    show preSum (fun i => is.getD i 0) n + is.getD n 0 = _
    rw [preSum_of is n (by omega), List.getD_eq_getElem?_getD, List.getElem?_eq_getElem (by omega)]
    exact (sum_take (List.getElem?_eq_getElem (by omega))).symm
def tSumVals (td : TE) : TE := fun σ H Q => td σ H fun x H1 => ∃ (a : Addr) (d : D), x = V.ref a ∧ H1 a = some (.dK (enc d)) ∧ Q (.int (d.map (·.2)).sum) H1
section
variable {X : Cx} {o : Expr} {p pos apos mpos : Pos} {td : TE}
theorem pe_sumVals (hc : X.calm = true) (hg : Gl X "sum") (hm : X.mg "sum" = none) (hd : PE X o td)
    (b1 : attributeBase o "values" X.env (eval o X.env) = eval o X.env := by rfl)
    (b2 : (apos.endLine == mpos.line) = true := by rfl)
    (b3 : starEach [Expr.Call (.Attribute o "values" apos) [] [] mpos] X.env = [(false, eval (Expr.Call (.Attribute o "values" apos) [] [] mpos) X.env)] := by rfl) :
    PE X (.Call (.Name "sum" p) [.Call (.Attribute o "values" apos) [] [] mpos] [] pos) (tSumVals td) := by
  refine ⟨fun pins s σ H Q I h => ?_⟩
  refine wpAny_Call_Name_kw (ld_blt I hg hm (u := .builtin "sum") (by decide +kernel) ?_ (by decide) (by decide))
  rw [b3]
  refine PySem.callWith_builtin1 (wpAny_Call_method0_late b1 b2 (thn (hd.run pins s σ H _ I h) fun v s1 ⟨x, H1, I1, r1, a, d, ex, ha, q⟩ => ?_))
  subst ex
  obtain rfl : v = Value.ref a := r1
  obtain ⟨_, hsys, vs, rel, dof⟩ := dk_of I1.hok ha
  obtain ⟨ep, dat⟩ := dof.dictAt
  obtain ⟨ob, es, ho, ex, hrest⟩ := id dat
  have tyd : s1.TypeIs (.ref a) "dict" := ⟨ob, ho, ex.1⟩
  refine ⟨"dict", "dict.values", F.plainAttrs_dict, F.slot_dict_values, F.type_dict_values, tyd, ?_, Calls.callWith_builtin rfl (PySem.evalArgs_none ?_)⟩
  · intro b e
    cases e
    exact ⟨ob, ho, ex.2.1⟩
  refine call_meetsIn F.slot_dict_values tyd F.entry_dict_values (F.args_dict_values_1 _) (meets_dict_values (mixKind X.prog X.w) a hsys) ⟨⟨vs, dof⟩, ?_⟩
  generalize hvw : ({ cls := .type "dict_values", data := .fields #[.ref a] } : Obj) = vw
  have keep1 : ∀ b u, s1.heap.get? b = some u → (s1.heap.push vw).get? b = some u := fun b u e => Heap.get?_push_of_some _ e
  have size1 : (s1.heap.push vw).objs.size = s1.heap.objs.size + 1 := Heap.size_push _ _
  have dat1 := dat.keep keep1
  have lens : vs.length = (d.map (·.2)).length := by
    rw [List.length_map, ← enc_len d]
    exact (KV.length rel).symm
  have vals : ∀ (i : Nat) (v : Value), (∃ k, vs[i]? = some (k, v)) → ∃ t, v = Value.int ((d.map (·.2)).getD i 0) t := by
    rintro i v ⟨k, hk⟩
    obtain ⟨x, h1, h2⟩ := KV.at' rel hk
    have e1 : ((enc d).map (·.2))[i]? = some x := by
      rw [List.getElem?_map, h1]; rfl
    rw [enc_vals, List.getElem?_map] at e1
    obtain ⟨j, hj, e2⟩ := Option.map_eq_some_iff.mp e1
    subst e2
    obtain ⟨t, e3⟩ := h2
    exact ⟨t, by rw [e3, List.getD_eq_getElem?_getD, hj]; rfl⟩
  have alt : a < s1.heap.objs.size := Heap.lt_size ho
  have seen : (s1.heap.push vw).get? s1.heap.objs.size = some vw := Heap.get?_push_size _ (by rw [← hvw]; rfl)
  refine call_sum_walkG (wpAny_pyIter_values (v := s1.heap.objs.size) (d := a) ⟨vw, seen, by rw [← hvw], by rw [← hvw]⟩ dat1 ?_)
  have W := Walks.dictValues (knd := mixKind X.prog X.w) (A := X.A.in1) (I.ok.hd hc) (s1.heap.push vw).objs.size a (by rw [size1]; exact Nat.ne_of_lt (Nat.lt_succ_of_lt alt)) vs ep
  refine ⟨_, _, _, _, _, _, fun i => (d.map (·.2)).getD i 0, rfl, W, ⟨⟨_, Heap.get?_push_size _ rfl, rfl, rfl⟩, dat1.keep fun b u e => Heap.get?_push_of_some _ e⟩, fun b hb => ?_, vals, fun h' tk t' hk => ?_⟩
  · show b < ((s1.heap.push vw).push _).objs.size
    rw [Heap.size_push, size1]
    rw [size1] at hb
    rcases List.mem_cons.mp hb with e | hb
    · rw [e]; exact Nat.lt_succ_self _
    · rw [List.mem_singleton.mp hb]; exact Nat.lt_succ_of_lt (Nat.lt_succ_of_lt alt)
  · rw [preSum_of _ _ (Nat.le_of_eq lens), lens, List.take_length]
    refine ⟨.int _, H1, I1.kept (t' := tk) fun b u e => hk b u (fun hmem => ?_) (Heap.get?_push_of_some _ (keep1 b u e)), ⟨t', rfl⟩, q⟩
    have e1 : b = (s1.heap.push vw).objs.size := List.mem_singleton.mp hmem
    have e2 := Heap.lt_size e
    rw [e1, size1] at e2
    exact Nat.not_lt_of_le (Nat.le_succ _) e2
end
/-! ### a list made of a dict's items -/
theorem filter_more {α : Type} {p : α → Bool} {l : List α} {i : Nat} {q : α} (h : l[i]? = some q) : (l.take (i + 1)).filter p = (l.take i).filter p ++ (if p q = true then [q] else []) := by
  rw [List.take_add_one, h, List.filter_append]
  congr 1
  by_cases c : p q = true
  · rw [if_pos c]; simp [c]
  · rw [if_neg c]; simp [c]
theorem lc_items {K : PySem.W.Frag} {d : D} {f : Addr} {k i j : Nat} {tt : TT} {te : TE} {vs : List Nat} {σ : L2.St} {H : Hp} {Q : VK} (p : Int × Int → Bool) (h : Int × Int → Int)
    (hk : σ[k]? = some (some (.ref f))) (hf : H f = some (.dK (enc d))) (hlen : d.length ≤ 1000000)
    (hw : ∀ q : Int × Int, wipe (((wipe σ vs).set i (some (.int q.1))).set j (some (.int q.2))) vs = wipe σ vs)
    (ht : ∀ q ∈ d, ∀ (H' : Hp) (R : Bool → Hp → Prop), R (p q) H' → tt (((wipe σ vs).set i (some (.int q.1))).set j (some (.int q.2))) H' R)
    (he : ∀ q ∈ d, ∀ (H' : Hp) (R : VK), R (.int (h q)) H' → te (((wipe σ vs).set i (some (.int q.1))).set j (some (.int q.2))) H' R)
    (hd : ∀ (D : Addr) (H' : Hp), H D = none → Same H H' → H' D = some (.lst (((d.filter p).map h).map V.int)) → Q (.ref D) H') :
    tLockE (tLc (iItems (tVar k)) (gTup K 2 (gCons (gName i) (gCons (gName j) gNil))) tt te vs) σ H Q := by
  refine ⟨f, .dK (enc d), hf, trivial, fun od => ⟨_, hk, f, od, enc d, rfl, upd_same, fun D nD => ?_⟩⟩
  have hDf : D ≠ f := fun z => by rw [z, upd_same] at nD; cases nD
  have nD0 : H D = none := by rw [← upd_ne (H := H) hDf]; exact nD
  refine lc_it (walk_encs (f := f) (od := od) (d := d)) (fun n H' => Same (upd H f (.frz od (.dK (enc d)))) H' ∧ H' D = some (.lst ((((d.take n).filter p).map h).map V.int))) ⟨same_upd nD, upd_same⟩ ?_ ?_ ?_
  · rintro n H' _ ⟨s5, _⟩
    exact s5 _ _ upd_same
  · rintro n v H' H2 hn ⟨s5, eD⟩ ⟨T, q, hq, rfl, nT, rfl⟩
    have hm : q ∈ d := List.mem_of_getElem? hq
    have sT : Same H' (upd H' T (.tup [.int q.1, .int q.2])) := same_upd nT
    refine ⟨T, _, rfl, .inl (.inl upd_same), rfl, _, _, rfl, _, _, rfl, rfl, hw q, ht q hm _ _ ?_⟩
    have more := filter_more (p := p) hq
    by_cases c : p q = true
    · rw [if_pos c]
      rw [if_pos c] at more
      refine he q hm _ _ ⟨_, sT _ _ eD, ?_, Same.over (s5.trans sT) nD, ?_⟩
      · rw [List.length_map, List.length_map, sizeLine_eq]
        have h1 := List.length_filter_le p (d.take n)
        rw [List.length_take] at h1
        omega
      · rw [upd_same, more, List.map_append, List.map_append]; rfl
    · rw [if_neg c]
      rw [if_neg c, List.append_nil] at more
      exact ⟨s5.trans sT, by rw [more]; exact sT _ _ eD⟩
  · rintro H' ⟨s5, eD⟩
    rw [List.take_length] at eD
    refine ⟨s5 _ _ upd_same, hd D _ nD0 (fun b x e => ?_) (by rw [upd_ne hDf]; exact eD)⟩
    by_cases c : b = f
    · subst c
      rw [upd_same]
      exact hf.symm.trans e
    · rw [upd_ne c]
      exact s5 _ _ (by rw [upd_ne c]; exact e)
end Oos
namespace Oos
open PySem PySem.Spec PyProof.Rows L2
/-! ### min(d.keys()), max(d.keys()), max(d.values()) of a dict with whole numbers as keys -/
theorem getD_mem' {l : List Int} {i : Nat} (h : i < l.length) : l.getD i 0 ∈ l := by
  rw [List.getD_eq_getElem?_getD, List.getElem?_eq_getElem h]
  exact List.getElem_mem h
theorem mem_getD' {l : List Int} {y : Int} (h : y ∈ l) : ∃ i, i < l.length ∧ l.getD i 0 = y := by
  obtain ⟨i, hi, e⟩ := List.mem_iff_getElem.mp h
  exact ⟨i, hi, by rw [List.getD_eq_getElem?_getD, List.getElem?_eq_getElem hi]; exact e⟩
section
variable {X : Cx}
/-- a dict's keys as the machine has them -/
theorem keys_val {P : Program} {w : World} {d : D} {vs : List (Key × Value)} (rel : KV (enc d) vs) (i : Nat) (v : Value) (h : ∃ k x, vs[i]? = some (k, x) ∧ (mixKind P w).is k v = true) : ∃ t, v = Value.int ((d.map (·.1)).getD i 0) t := by
  obtain ⟨k, x, hk, his⟩ := h
  obtain ⟨y, h1, h2⟩ := KV.at' rel hk
  have e1 : ((enc d)[i]?).map (·.1) = some k := by rw [h1]; rfl
  have e2 : ((enc d)[i]?).map (·.1) = (d[i]?).map fun p => (Sum.inl p.1 : Key) := by
    unfold enc
    rw [List.getElem?_map]
    cases d[i]? <;> rfl
  rw [e2] at e1
  obtain ⟨p, hp, e3⟩ := Option.map_eq_some_iff.mp e1
  subst e3
  rw [mixKind_is] at his
  rcases keyIs_shape his with ⟨z, t, e4, e5⟩ | ⟨z, t, e4, e5⟩
  · cases e4
    refine ⟨t, ?_⟩
    rw [e5, List.getD_eq_getElem?_getD, List.getElem?_map, hp]; rfl
  · cases e4
end
def tMinKeys (td : TE) : TE := fun σ H Q => td σ H fun x H1 => ∃ (a : Addr) (d : D), x = V.ref a ∧ H1 a = some (.dK (enc d)) ∧ d ≠ [] ∧ ∀ m, m ∈ d.map (·.1) → (∀ k ∈ d.map (·.1), m ≤ k) → Q (.int m) H1
section
variable {X : Cx} {o : Expr} {p pos apos mpos : Pos} {td : TE}
theorem pe_minKeys (hc : X.calm = true) (hg : Gl X "min") (hm : X.mg "min" = none) (hd : PE X o td)
    (b1 : attributeBase o "keys" X.env (eval o X.env) = eval o X.env := by rfl)
    (b2 : (apos.endLine == mpos.line) = true := by rfl)
    (b3 : starEach [Expr.Call (.Attribute o "keys" apos) [] [] mpos] X.env = [(false, eval (Expr.Call (.Attribute o "keys" apos) [] [] mpos) X.env)] := by rfl) :
    PE X (.Call (.Name "min" p) [.Call (.Attribute o "keys" apos) [] [] mpos] [] pos) (tMinKeys td) := by
  refine ⟨fun pins s σ H Q I h => ?_⟩
  refine wpAny_Call_Name_kw (ld_blt I hg hm (u := .builtin "min") (by decide +kernel) ?_ (by decide) (by decide))
  rw [b3]
  refine PySem.callWith_builtin1 (wpAny_Call_method0_late b1 b2 (thn (hd.run pins s σ H _ I h) fun v s1 ⟨x, H1, I1, r1, a, d, ex, ha, hne, q⟩ => ?_))
  subst ex
  obtain rfl : v = Value.ref a := r1
  obtain ⟨_, hsys, ks, rel, dof⟩ := dk_of I1.hok ha
  obtain ⟨ep, dat⟩ := dof.dictAt
  obtain ⟨ob, es, ho, ex, hrest⟩ := id dat
  have tyd : s1.TypeIs (.ref a) "dict" := ⟨ob, ho, ex.1⟩
  refine ⟨"dict", "dict.keys", F.plainAttrs_dict, F.slot_dict_keys, F.type_dict_keys, tyd, ?_, Calls.callWith_builtin rfl (PySem.evalArgs_none ?_)⟩
  · intro b e
    cases e
    exact ⟨ob, ho, ex.2.1⟩
  refine call_meetsIn F.slot_dict_keys tyd F.entry_dict_keys (F.args_dict_keys_1 _) (PySem.W.kdl_meets_keys (mixKind X.prog X.w) a hsys) ⟨⟨ks, dof⟩, ?_⟩
  generalize hvw : ({ cls := .type "dict_keys", data := .fields #[.ref a] } : Obj) = vw
  have keep1 : ∀ b u, s1.heap.get? b = some u → (s1.heap.push vw).get? b = some u := fun b u e => Heap.get?_push_of_some _ e
  have size1 : (s1.heap.push vw).objs.size = s1.heap.objs.size + 1 := Heap.size_push _ _
  have dat1 := dat.keep keep1
  have lens : ks.length = (d.map (·.1)).length := by
    rw [List.length_map, ← enc_len d]
    exact (KV.length rel).symm
  have pos : 0 < (d.map (·.1)).length := by
    rw [List.length_map]
    exact List.length_pos_iff.mpr hne
  have alt : a < s1.heap.objs.size := Heap.lt_size ho
  have seen : (s1.heap.push vw).get? s1.heap.objs.size = some vw := Heap.get?_push_size _ (by rw [← hvw]; rfl)
  refine call_min_walk (PySem.W.kdl_pyIter_keys (knd := mixKind X.prog X.w) (v := s1.heap.objs.size) (d := a) ⟨vw, seen, by rw [← hvw], by rw [← hvw]⟩ dat1 ?_)
  have W := Walks.dictKeys (knd := mixKind X.prog X.w) (prog := X.prog) (w := X.w) (A := X.A.in1) (I.ok.hd hc) (s1.heap.push vw).objs.size a (by rw [size1]; exact Nat.ne_of_lt (Nat.lt_succ_of_lt alt)) ks ep
  refine ⟨_, _, _, _, _, _, _, rfl, W, ⟨⟨_, Heap.get?_push_size _ rfl, rfl, rfl⟩, dat1.keep fun b u e => Heap.get?_push_of_some _ e⟩, fun b hb => ?_, by rw [lens]; exact pos, CmpOf.ints_lt (fun i => (d.map (·.1)).getD i 0) (keys_val rel), fun v h' tk hP hk => ?_⟩
  · show b < ((s1.heap.push vw).push _).objs.size
    rw [Heap.size_push, size1]
    rw [size1] at hb
    rcases List.mem_cons.mp hb with e | hb
    · rw [e]; exact Nat.lt_succ_self _
    · rw [List.mem_singleton.mp hb]; exact Nat.lt_succ_of_lt (Nat.lt_succ_of_lt alt)
  · obtain ⟨t, rfl⟩ := keys_val rel _ v hP
    obtain ⟨b1, b2⟩ := argBest_lt (fun i => (d.map (·.1)).getD i 0) (ks.length - 1)
    refine ⟨.int _, H1, I1.kept (t' := tk) fun b u e => hk b u (fun hmem => ?_) (Heap.get?_push_of_some _ (keep1 b u e)), ⟨t, rfl⟩, q _ (getD_mem' (by omega)) fun y hy => ?_⟩
    · have e1 : b = (s1.heap.push vw).objs.size := List.mem_singleton.mp hmem
      have e2 := Heap.lt_size e
      rw [e1, size1] at e2
      exact Nat.not_lt_of_le (Nat.le_succ _) e2
    · obtain ⟨i, hi, e⟩ := mem_getD' hy
      rw [← e]
      exact b2 i (by omega)
end
def tMaxKeys (td : TE) : TE := fun σ H Q => td σ H fun x H1 => ∃ (a : Addr) (d : D), x = V.ref a ∧ H1 a = some (.dK (enc d)) ∧ d ≠ [] ∧ ∀ m, m ∈ d.map (·.1) → (∀ k ∈ d.map (·.1), k ≤ m) → Q (.int m) H1
section
variable {X : Cx} {o : Expr} {p pos apos mpos : Pos} {td : TE}
theorem pe_maxKeys (hc : X.calm = true) (hg : Gl X "max") (hm : X.mg "max" = none) (hd : PE X o td)
    (b1 : attributeBase o "keys" X.env (eval o X.env) = eval o X.env := by rfl)
    (b2 : (apos.endLine == mpos.line) = true := by rfl)
    (b3 : starEach [Expr.Call (.Attribute o "keys" apos) [] [] mpos] X.env = [(false, eval (Expr.Call (.Attribute o "keys" apos) [] [] mpos) X.env)] := by rfl) :
    PE X (.Call (.Name "max" p) [.Call (.Attribute o "keys" apos) [] [] mpos] [] pos) (tMaxKeys td) := by
  refine ⟨fun pins s σ H Q I h => ?_⟩
  refine wpAny_Call_Name_kw (ld_blt I hg hm (u := .builtin "max") (by decide +kernel) ?_ (by decide) (by decide))
  rw [b3]
  refine PySem.callWith_builtin1 (wpAny_Call_method0_late b1 b2 (thn (hd.run pins s σ H _ I h) fun v s1 ⟨x, H1, I1, r1, a, d, ex, ha, hne, q⟩ => ?_))
  subst ex
  obtain rfl : v = Value.ref a := r1
  obtain ⟨_, hsys, ks, rel, dof⟩ := dk_of I1.hok ha
  obtain ⟨ep, dat⟩ := dof.dictAt
  obtain ⟨ob, es, ho, ex, hrest⟩ := id dat
  have tyd : s1.TypeIs (.ref a) "dict" := ⟨ob, ho, ex.1⟩
  refine ⟨"dict", "dict.keys", F.plainAttrs_dict, F.slot_dict_keys, F.type_dict_keys, tyd, ?_, Calls.callWith_builtin rfl (PySem.evalArgs_none ?_)⟩
  · intro b e
    cases e
    exact ⟨ob, ho, ex.2.1⟩
  refine call_meetsIn F.slot_dict_keys tyd F.entry_dict_keys (F.args_dict_keys_1 _) (PySem.W.kdl_meets_keys (mixKind X.prog X.w) a hsys) ⟨⟨ks, dof⟩, ?_⟩
  generalize hvw : ({ cls := .type "dict_keys", data := .fields #[.ref a] } : Obj) = vw
  have keep1 : ∀ b u, s1.heap.get? b = some u → (s1.heap.push vw).get? b = some u := fun b u e => Heap.get?_push_of_some _ e
  have size1 : (s1.heap.push vw).objs.size = s1.heap.objs.size + 1 := Heap.size_push _ _
  have dat1 := dat.keep keep1
  have lens : ks.length = (d.map (·.1)).length := by
    rw [List.length_map, ← enc_len d]
    exact (KV.length rel).symm
  have pos : 0 < (d.map (·.1)).length := by
    rw [List.length_map]
    exact List.length_pos_iff.mpr hne
  have alt : a < s1.heap.objs.size := Heap.lt_size ho
  have seen : (s1.heap.push vw).get? s1.heap.objs.size = some vw := Heap.get?_push_size _ (by rw [← hvw]; rfl)
  refine call_max_walk (PySem.W.kdl_pyIter_keys (knd := mixKind X.prog X.w) (v := s1.heap.objs.size) (d := a) ⟨vw, seen, by rw [← hvw], by rw [← hvw]⟩ dat1 ?_)
  have W := Walks.dictKeys (knd := mixKind X.prog X.w) (prog := X.prog) (w := X.w) (A := X.A.in1) (I.ok.hd hc) (s1.heap.push vw).objs.size a (by rw [size1]; exact Nat.ne_of_lt (Nat.lt_succ_of_lt alt)) ks ep
  refine ⟨_, _, _, _, _, _, _, rfl, W, ⟨⟨_, Heap.get?_push_size _ rfl, rfl, rfl⟩, dat1.keep fun b u e => Heap.get?_push_of_some _ e⟩, fun b hb => ?_, by rw [lens]; exact pos, CmpOf.ints_gt (fun i => (d.map (·.1)).getD i 0) (keys_val rel), fun v h' tk hP hk => ?_⟩
  · show b < ((s1.heap.push vw).push _).objs.size
    rw [Heap.size_push, size1]
    rw [size1] at hb
    rcases List.mem_cons.mp hb with e | hb
    · rw [e]; exact Nat.lt_succ_self _
    · rw [List.mem_singleton.mp hb]; exact Nat.lt_succ_of_lt (Nat.lt_succ_of_lt alt)
  · obtain ⟨t, rfl⟩ := keys_val rel _ v hP
    obtain ⟨b1, b2⟩ := argBest_gt (fun i => (d.map (·.1)).getD i 0) (ks.length - 1)
    refine ⟨.int _, H1, I1.kept (t' := tk) fun b u e => hk b u (fun hmem => ?_) (Heap.get?_push_of_some _ (keep1 b u e)), ⟨t, rfl⟩, q _ (getD_mem' (by omega)) fun y hy => ?_⟩
    · have e1 : b = (s1.heap.push vw).objs.size := List.mem_singleton.mp hmem
      have e2 := Heap.lt_size e
      rw [e1, size1] at e2
      exact Nat.not_lt_of_le (Nat.le_succ _) e2
    · obtain ⟨i, hi, e⟩ := mem_getD' hy
      rw [← e]
      exact b2 i (by omega)
end
/-! ### max(d.values()) -/
def tMaxVals (td : TE) : TE := fun σ H Q => td σ H fun x H1 => ∃ (a : Addr) (d : D), x = V.ref a ∧ H1 a = some (.dK (enc d)) ∧ d ≠ [] ∧ ∀ m, m ∈ d.map (·.2) → (∀ y ∈ d.map (·.2), y ≤ m) → Q (.int m) H1
section
variable {X : Cx} {o : Expr} {p pos apos mpos : Pos} {td : TE}
theorem pe_maxVals (hc : X.calm = true) (hg : Gl X "max") (hm : X.mg "max" = none) (hd : PE X o td)
    (b1 : attributeBase o "values" X.env (eval o X.env) = eval o X.env := by rfl)
    (b2 : (apos.endLine == mpos.line) = true := by rfl)
    (b3 : starEach [Expr.Call (.Attribute o "values" apos) [] [] mpos] X.env = [(false, eval (Expr.Call (.Attribute o "values" apos) [] [] mpos) X.env)] := by rfl) :
    PE X (.Call (.Name "max" p) [.Call (.Attribute o "values" apos) [] [] mpos] [] pos) (tMaxVals td) := by
  refine ⟨fun pins s σ H Q I h => ?_⟩
  refine wpAny_Call_Name_kw (ld_blt I hg hm (u := .builtin "max") (by decide +kernel) ?_ (by decide) (by decide))
  rw [b3]
  refine PySem.callWith_builtin1 (wpAny_Call_method0_late b1 b2 (thn (hd.run pins s σ H _ I h) fun v s1 ⟨x, H1, I1, r1, a, d, ex, ha, hne, q⟩ => ?_))
  subst ex
  obtain rfl : v = Value.ref a := r1
  obtain ⟨_, hsys, vs, rel, dof⟩ := dk_of I1.hok ha
  obtain ⟨ep, dat⟩ := dof.dictAt
  obtain ⟨ob, es, ho, ex, hrest⟩ := id dat
  have tyd : s1.TypeIs (.ref a) "dict" := ⟨ob, ho, ex.1⟩
  refine ⟨"dict", "dict.values", F.plainAttrs_dict, F.slot_dict_values, F.type_dict_values, tyd, ?_, Calls.callWith_builtin rfl (PySem.evalArgs_none ?_)⟩
  · intro b e
    cases e
    exact ⟨ob, ho, ex.2.1⟩
  refine call_meetsIn F.slot_dict_values tyd F.entry_dict_values (F.args_dict_values_1 _) (meets_dict_values (mixKind X.prog X.w) a hsys) ⟨⟨vs, dof⟩, ?_⟩
  generalize hvw : ({ cls := .type "dict_values", data := .fields #[.ref a] } : Obj) = vw
  have keep1 : ∀ b u, s1.heap.get? b = some u → (s1.heap.push vw).get? b = some u := fun b u e => Heap.get?_push_of_some _ e
  have size1 : (s1.heap.push vw).objs.size = s1.heap.objs.size + 1 := Heap.size_push _ _
  have dat1 := dat.keep keep1
  have lens : vs.length = (d.map (·.2)).length := by
    rw [List.length_map, ← enc_len d]
    exact (KV.length rel).symm
  have pos : 0 < (d.map (·.2)).length := by
    rw [List.length_map]
    exact List.length_pos_iff.mpr hne
  have vals : ∀ (i : Nat) (v : Value), (∃ k, vs[i]? = some (k, v)) → ∃ t, v = Value.int ((d.map (·.2)).getD i 0) t := by
    rintro i v ⟨k, hk⟩
    obtain ⟨x, h1, h2⟩ := KV.at' rel hk
    have e1 : ((enc d).map (·.2))[i]? = some x := by
      rw [List.getElem?_map, h1]; rfl
    rw [enc_vals, List.getElem?_map] at e1
    obtain ⟨j, hj, e2⟩ := Option.map_eq_some_iff.mp e1
    subst e2
    obtain ⟨t, e3⟩ := h2
    exact ⟨t, by rw [e3, List.getD_eq_getElem?_getD, hj]; rfl⟩
  have alt : a < s1.heap.objs.size := Heap.lt_size ho
  have seen : (s1.heap.push vw).get? s1.heap.objs.size = some vw := Heap.get?_push_size _ (by rw [← hvw]; rfl)
  refine call_max_walk (wpAny_pyIter_values (v := s1.heap.objs.size) (d := a) ⟨vw, seen, by rw [← hvw], by rw [← hvw]⟩ dat1 ?_)
  have W := Walks.dictValues (knd := mixKind X.prog X.w) (A := X.A.in1) (I.ok.hd hc) (s1.heap.push vw).objs.size a (by rw [size1]; exact Nat.ne_of_lt (Nat.lt_succ_of_lt alt)) vs ep
  refine ⟨_, _, _, _, _, _, _, rfl, W, ⟨⟨_, Heap.get?_push_size _ rfl, rfl, rfl⟩, dat1.keep fun b u e => Heap.get?_push_of_some _ e⟩, fun b hb => ?_, by rw [lens]; exact pos, CmpOf.ints_gt (fun i => (d.map (·.2)).getD i 0) vals, fun v h' tk hP hk => ?_⟩
  · show b < ((s1.heap.push vw).push _).objs.size
    rw [Heap.size_push, size1]
    rw [size1] at hb
    rcases List.mem_cons.mp hb with e | hb
    · rw [e]; exact Nat.lt_succ_self _
    · rw [List.mem_singleton.mp hb]; exact Nat.lt_succ_of_lt (Nat.lt_succ_of_lt alt)
  · obtain ⟨t, rfl⟩ := vals _ v hP
    obtain ⟨b1, b2⟩ := argBest_gt (fun i => (d.map (·.2)).getD i 0) (vs.length - 1)
    refine ⟨.int _, H1, I1.kept (t' := tk) fun b u e => hk b u (fun hmem => ?_) (Heap.get?_push_of_some _ (keep1 b u e)), ⟨t, rfl⟩, q _ (getD_mem' (by omega)) fun y hy => ?_⟩
    · have e1 : b = (s1.heap.push vw).objs.size := List.mem_singleton.mp hmem
      have e2 := Heap.lt_size e
      rw [e1, size1] at e2
      exact Nat.not_lt_of_le (Nat.le_succ _) e2
    · obtain ⟨i, hi, e⟩ := mem_getD' hy
      rw [← e]
      exact b2 i (by omega)
end
end Oos
namespace Oos
open PySem PySem.Spec PyProof.Rows L2
open Km497 (Book)
/-- what a call that changes nothing answers -/
def tell (b : Book) (c : Km497.Call) : List Int := Km497Neutral.told (Km497.act ⟨b, [], []⟩ c).2
/-- a call that changes nothing: what is handed in is len numbers -/
def spQ (K : PySem.W.Frag) (C : Addr) (len : Nat) (mk : List Nat → Km497.Call) : Sp := fun vs H Q _ => ∃ (a : Addr) (dx : Dx) (ls lf g : Addr) (rv : V) (fs : List Nat) (b : Book) (xs : List Nat), vs = [.ref a, .ref g] ∧ Obj4 C H a dx ls lf rv fs b ∧ Wf b ∧
  SqL K H g (nums xs) ∧ xs.length = len ∧ Gives H (tell b (mk xs)) Q
theorem one_of {xs : List Nat} (h : xs.length = 1) : ∃ x, xs = [x] := by
  match xs, h with
  | [x], _ => exact ⟨x, rfl⟩
theorem two_of {xs : List Nat} (h : xs.length = 2) : ∃ x y, xs = [x, y] := by
  match xs, h with
  | [x, y], _ => exact ⟨x, y, rfl⟩
theorem three_of {xs : List Nat} (h : xs.length = 3) : ∃ x y z, xs = [x, y, z] := by
  match xs, h with
  | [x, y, z], _ => exact ⟨x, y, z, rfl⟩
/-- a new list handed back -/
theorem Gives.new {H H1 : Hp} {l : List Int} {Q : VK} {vs : List V} (q : Gives H l Q) (s1 : Same H H1) (e : vs = l.map V.int) (p : Addr) (np : H1 p = none) : Q (.ref p) (upd H1 p (.lst vs)) := by
  refine q _ p (s1.trans (same_upd np)) (s1.free np) ?_
  rw [upd_same, e]
theorem gen_small (b : Book) (fs : List Nat) (n : Nat) (h : n ≤ 3) : (genD b fs n).length ≤ 1000000 := by
  have h1 := gen_len b fs n
  have h2 : 13 ^ n ≤ 13 ^ 3 := Nat.pow_le_pow_right (by decide) h
  omega
section
variable {P : Program} {w : World} {K : PySem.W.Frag} {mg : Str → Option Value} {base : Heap} {C : Addr}
theorem ok_gs_total {f : Addr} {fd : FuncData} (F : Fun K "gs_total" "gs_total" s_gs_total f fd) (c_LAST_GENERATION : IsI mg "LAST_GENERATION" (3)) (c_OUT_OF_BOUNDS : IsI mg "OUT_OF_BOUNDS" (-22)) (b_sum : mg "sum" = none) (f_generation : Has P w K mg base "generation" ["descent", "n"] 3 (spGen C)) :
    FnOk P w K mg base CX0 4 f fd ["descent", "given"] (spQ K C 1 fun xs => .total (xs.getD 0 0)) := by
  refine F.ok sc_gs_total (fun vs H Q E h => ?_) (fun cdv A outer s H vs Q E hr h => ?_)
  · obtain ⟨a, dx, ls, lf, g, rv, fs, b, xs, rfl, _⟩ := h
    rfl
  · obtain ⟨a, dx, ls, lf, g, rv, fs, b, xs, rfl, O, W, hg, hl, q⟩ := h
    obtain ⟨n, rfl⟩ := one_of hl
    refine ⟨_, (pss_cons (ps_set (i := 2) sc_gs_total.nd rfl (.inl rfl) (pe_ix ix_list (pv 1) pe_int (fun _ _ => rfl)))
      (pss_cons (ps_if (pt_cmpR op_gt (pv 2) (pe_ci c_LAST_GENERATION) (nomark _)) (pss_one (ps_ret (pe_lst (pa_cons (pe_ci c_OUT_OF_BOUNDS) pa_nil)))) pss_nil)
      (pss_one (ps_ret (pe_lst (pa_cons pe_int (pa_cons (pe_sumVals rfl rfl b_sum (pe_has f_generation (hr.mono (by decide)) (pa_cons (pv 0) (pa_cons (pv 2) pa_nil)))) pa_nil))))))), ?_⟩
    refine ⟨_, rfl, g, _, 0, _, rfl, rfl, hg, atI_nat (j := 0) rfl, _, rfl, _, _, rfl, rfl, _, rfl, ?_⟩
    refine ite2 (fun c => ?_) (fun c => ?_)
    · have c : (3 : Int) < n := of_decide_eq_true c
      refine ⟨(by show 1 ≤ sizeLine; decide), q.new (Same.refl _) ?_⟩
      show _ = (Km497Neutral.told (if Km497.DEEP < n then _ else _)).map V.int
      rw [if_pos (show Km497.DEEP < n by show 3 < n; omega)]; rfl
    · have c : ¬ (3 : Int) < n := fun z => c (decide_eq_true z)
      refine ⟨_, rfl, _, rfl, a, dx, ls, lf, rv, fs, b, n, rfl, by omega, O, W.sl, W.s9, fun H1 p1 s1 n1 e1 => ?_⟩
      have R := gen_rep W.g1 W.g2 O.fl O.fe n (by omega)
      refine ⟨p1, _, rfl, e1, (by show 2 ≤ sizeLine; decide), q.new s1 ?_⟩
      show _ = (Km497Neutral.told (if Km497.DEEP < n then _ else _)).map V.int
      rw [if_neg (show ¬ Km497.DEEP < n by show ¬ 3 < n; omega), R.total]; rfl
theorem ok_gs_count {f : Addr} {fd : FuncData} (F : Fun K "gs_count" "gs_count" s_gs_count f fd) (c_OLDEST_ASKED : IsI mg "OLDEST_ASKED" (80)) (c_LAST_GENERATION : IsI mg "LAST_GENERATION" (3)) (c_OUT_OF_BOUNDS : IsI mg "OUT_OF_BOUNDS" (-22)) (f_generation : Has P w K mg base "generation" ["descent", "n"] 3 (spGen C)) :
    FnOk P w K mg base CX0 4 f fd ["descent", "given"] (spQ K C 2 fun xs => .count (xs.getD 0 0) (xs.getD 1 0)) := by
  refine F.ok sc_gs_count (fun vs H Q E h => ?_) (fun cdv A outer s H vs Q E hr h => ?_)
  · obtain ⟨a, dx, ls, lf, g, rv, fs, b, xs, rfl, _⟩ := h
    rfl
  · obtain ⟨a, dx, ls, lf, g, rv, fs, b, xs, rfl, O, W, hg, hl, q⟩ := h
    obtain ⟨n, e, rfl⟩ := two_of hl
    refine ⟨_, (pss_cons (ps_set (i := 2) sc_gs_count.nd rfl (.inl rfl) (pe_ix ix_list (pv 1) pe_int (fun _ _ => rfl)))
      (pss_cons (ps_set (i := 3) sc_gs_count.nd rfl (.inl rfl) (pe_ix ix_list (pv 1) pe_int (fun _ _ => rfl)))
      (pss_cons (ps_if (PW.pt (pw_or (pt_cmpR op_gt (pv 2) (pe_ci c_LAST_GENERATION) (nomark _)) (pw_or1 (pt_cmpR op_gt (pv 3) (pe_ci c_OLDEST_ASKED) (nomark _))))) (pss_one (ps_ret (pe_lst (pa_cons (pe_ci c_OUT_OF_BOUNDS) pa_nil)))) pss_nil)
      (pss_one (ps_ret (pe_lst (pa_cons pe_int (pa_cons (pe_dget2 (hu_of hr) (pe_has f_generation (hr.mono (by decide)) (pa_cons (pv 0) (pa_cons (pv 2) pa_nil))) (pv 3) pe_int ⟨rfl, rfl, rfl, rfl⟩) pa_nil)))))))), ?_⟩
    refine ⟨_, rfl, g, _, 0, _, rfl, rfl, hg, atI_nat (j := 0) rfl, _, rfl, g, _, 1, _, rfl, rfl, hg, atI_nat (j := 1) rfl, _, rfl, _, _, rfl, rfl, _, rfl, ?_⟩
    have hif : (Km497.act ⟨b, [], []⟩ (.count n e)).2 = if Km497.DEEP < n ∨ 80 < e then Km497.only (-22) else ⟨0, [(b.gen n).getD (Km497.OFF + e) 0]⟩ := rfl
    have hbad : Km497.DEEP < n ∨ 80 < e → ∀ p, H p = none → Q (.ref p) (upd H p (.lst [.int (-22)])) := fun c => by
      refine q.new (Same.refl _) ?_
      show _ = (Km497Neutral.told (Km497.act ⟨b, [], []⟩ (.count n e)).2).map V.int
      rw [hif, if_pos c]; rfl
    refine ite2 (fun c => ?_) (fun c => ?_)
    · have c : (3 : Int) < n := of_decide_eq_true c
      exact ⟨(by show 1 ≤ sizeLine; decide), hbad (.inl (by show 3 < n; omega))⟩
    have c : ¬ (3 : Int) < n := fun z => c (decide_eq_true z)
    refine ⟨_, rfl, _, _, rfl, rfl, _, rfl, ?_⟩
    refine ite2 (fun c2 => ?_) (fun c2 => ?_)
    · have c2 : (80 : Int) < e := of_decide_eq_true c2
      exact ⟨(by show 1 ≤ sizeLine; decide), hbad (.inr (by omega))⟩
    have c2 : ¬ (80 : Int) < e := fun z => c2 (decide_eq_true z)
    refine ⟨_, rfl, _, rfl, a, dx, ls, lf, rv, fs, b, n, rfl, by omega, O, W.sl, W.s9, fun H1 p1 s1 n1 e1 => ?_⟩
    have R := gen_rep W.g1 W.g2 O.fl O.fe n (by omega)
    refine ⟨p1, rfl, .inl ⟨_, .inl e1⟩, _, rfl, _, DGet.k (k := Sum.inl (e : Int)) e1, (by show 2 ≤ sizeLine; decide), ?_⟩
    rw [getD_enc, R.at (e : Int) (by omega) (by omega)]
    refine q.new s1 ?_
    show _ = (Km497Neutral.told (Km497.act ⟨b, [], []⟩ (.count n e)).2).map V.int
    rw [hif, if_neg (show ¬ (Km497.DEEP < n ∨ 80 < e) by show ¬ (3 < n ∨ 80 < e); omega), show ((e : Int) + 60).toNat = Km497.OFF + e by show _ = 60 + e; omega]; rfl
theorem ok_gs_younger {f : Addr} {fd : FuncData} (F : Fun K "gs_younger" "gs_younger" s_gs_younger f fd) (c_YOUNGEST_ASKED : IsI mg "YOUNGEST_ASKED" (60)) (c_LAST_GENERATION : IsI mg "LAST_GENERATION" (3)) (c_OUT_OF_BOUNDS : IsI mg "OUT_OF_BOUNDS" (-22)) (f_generation : Has P w K mg base "generation" ["descent", "n"] 3 (spGen C)) :
    FnOk P w K mg base CX0 4 f fd ["descent", "given"] (spQ K C 2 fun xs => .younger (xs.getD 0 0) (xs.getD 1 0)) := by
  refine F.ok sc_gs_younger (fun vs H Q E h => ?_) (fun cdv A outer s H vs Q E hr h => ?_)
  · obtain ⟨a, dx, ls, lf, g, rv, fs, b, xs, rfl, _⟩ := h
    rfl
  · obtain ⟨a, dx, ls, lf, g, rv, fs, b, xs, rfl, O, W, hg, hl, q⟩ := h
    obtain ⟨n, e, rfl⟩ := two_of hl
    refine ⟨_, (pss_cons (ps_set (i := 2) sc_gs_younger.nd rfl (.inl rfl) (pe_ix ix_list (pv 1) pe_int (fun _ _ => rfl)))
      (pss_cons (ps_set (i := 3) sc_gs_younger.nd rfl (.inl rfl) (pe_ix ix_list (pv 1) pe_int (fun _ _ => rfl)))
      (pss_cons (ps_if (PW.pt (pw_or (pt_cmpR op_gt (pv 2) (pe_ci c_LAST_GENERATION) (nomark _)) (pw_or1 (pt_cmpR op_gt (pv 3) (pe_ci c_YOUNGEST_ASKED) (nomark _))))) (pss_one (ps_ret (pe_lst (pa_cons (pe_ci c_OUT_OF_BOUNDS) pa_nil)))) pss_nil)
      (pss_one (ps_ret (pe_lst (pa_cons pe_int (pa_cons (pe_dget2 (hu_of hr) (pe_has f_generation (hr.mono (by decide)) (pa_cons (pv 0) (pa_cons (pv 2) pa_nil))) (pe_un un_neg (pv 3)) pe_int ⟨rfl, rfl, rfl, rfl⟩) pa_nil)))))))), ?_⟩
    refine ⟨_, rfl, g, _, 0, _, rfl, rfl, hg, atI_nat (j := 0) rfl, _, rfl, g, _, 1, _, rfl, rfl, hg, atI_nat (j := 1) rfl, _, rfl, _, _, rfl, rfl, _, rfl, ?_⟩
    have hif : (Km497.act ⟨b, [], []⟩ (.younger n e)).2 = if Km497.DEEP < n ∨ 60 < e then Km497.only (-22) else ⟨0, [(b.gen n).getD (Km497.OFF - e) 0]⟩ := rfl
    have hbad : Km497.DEEP < n ∨ 60 < e → ∀ p, H p = none → Q (.ref p) (upd H p (.lst [.int (-22)])) := fun c => by
      refine q.new (Same.refl _) ?_
      show _ = (Km497Neutral.told (Km497.act ⟨b, [], []⟩ (.younger n e)).2).map V.int
      rw [hif, if_pos c]; rfl
    refine ite2 (fun c => ?_) (fun c => ?_)
    · have c : (3 : Int) < n := of_decide_eq_true c
      exact ⟨(by show 1 ≤ sizeLine; decide), hbad (.inl (by show 3 < n; omega))⟩
    have c : ¬ (3 : Int) < n := fun z => c (decide_eq_true z)
    refine ⟨_, rfl, _, _, rfl, rfl, _, rfl, ?_⟩
    refine ite2 (fun c2 => ?_) (fun c2 => ?_)
    · have c2 : (60 : Int) < e := of_decide_eq_true c2
      exact ⟨(by show 1 ≤ sizeLine; decide), hbad (.inr (by omega))⟩
    have c2 : ¬ (60 : Int) < e := fun z => c2 (decide_eq_true z)
    refine ⟨_, rfl, _, rfl, a, dx, ls, lf, rv, fs, b, n, rfl, by omega, O, W.sl, W.s9, fun H1 p1 s1 n1 e1 => ?_⟩
    have R := gen_rep W.g1 W.g2 O.fl O.fe n (by omega)
    refine ⟨p1, rfl, .inl ⟨_, .inl e1⟩, _, rfl, _, rfl, _, DGet.k (k := Sum.inl (-(e : Int))) e1, (by show 2 ≤ sizeLine; decide), ?_⟩
    rw [getD_enc, R.at (-(e : Int)) (by omega) (by omega)]
    refine q.new s1 ?_
    show _ = (Km497Neutral.told (Km497.act ⟨b, [], []⟩ (.younger n e)).2).map V.int
    rw [hif, if_neg (show ¬ (Km497.DEEP < n ∨ 60 < e) by show ¬ (3 < n ∨ 60 < e); omega), show (-(e : Int) + 60).toNat = Km497.OFF - e by show _ = 60 - e; omega]; rfl
theorem ok_gs_between {f : Addr} {fd : FuncData} (F : Fun K "gs_between" "gs_between" s_gs_between f fd) (c_OLDEST_ASKED : IsI mg "OLDEST_ASKED" (80)) (c_LAST_GENERATION : IsI mg "LAST_GENERATION" (3)) (c_OUT_OF_BOUNDS : IsI mg "OUT_OF_BOUNDS" (-22)) (f_generation : Has P w K mg base "generation" ["descent", "n"] 3 (spGen C)) (b_sum : mg "sum" = none) :
    FnOk P w K mg base CX0 4 f fd ["descent", "given"] (spQ K C 3 fun xs => .between (xs.getD 0 0) (xs.getD 1 0) (xs.getD 2 0)) := by
  refine F.ok sc_gs_between (fun vs H Q E h => ?_) (fun cdv A outer s H vs Q E hr h => ?_)
  · obtain ⟨a, dx, ls, lf, g, rv, fs, b, xs, rfl, _⟩ := h
    rfl
  · obtain ⟨a, dx, ls, lf, g, rv, fs, b, xs, rfl, O, W, hg, hl, q⟩ := h
    obtain ⟨n, l, h, rfl⟩ := three_of hl
    refine ⟨_, (pss_cons (ps_set (i := 2) sc_gs_between.nd rfl (.inl rfl) (pe_ix ix_list (pv 1) pe_int (fun _ _ => rfl)))
      (pss_cons (ps_set (i := 3) sc_gs_between.nd rfl (.inr rfl) (pe_ix ix_list (pv 1) pe_int (fun _ _ => rfl)))
      (pss_cons (ps_set (i := 4) sc_gs_between.nd rfl (.inr rfl) (pe_ix ix_list (pv 1) pe_int (fun _ _ => rfl)))
      (pss_cons (ps_if (PW.pt (pw_or (pt_cmpR op_gt (pv 2) (pe_ci c_LAST_GENERATION) (nomark _)) (pw_or (pt_cmpR op_lt (pv 4) (pv 3) (nomark _)) (pw_or1 (pt_cmpR op_gt (pv 4) (pe_ci c_OLDEST_ASKED) (nomark _)))))) (pss_one (ps_ret (pe_lst (pa_cons (pe_ci c_OUT_OF_BOUNDS) pa_nil)))) pss_nil)
      (pss_cons (ps_set (i := 5) sc_gs_between.nd rfl (.inl rfl) (pe_has f_generation (hr.mono (by decide)) (pa_cons (pv 0) (pa_cons (pv 2) pa_nil))))
      (pss_cons (ps_set (i := 6) sc_gs_between.nd rfl (.inl rfl) (pe_callB (cr_sum rfl) (by rfl) b_sum (by decide +kernel) (pa_cons (pe_lock (pe_lc (own := [("age", 7), ("men", 8)]) (g := gTup K 2 (gCons (gName 7) (gCons (gName 8) (gNil)))) rfl sc_gs_between.nd (pi_items (pv 5)) (blkOk_by (own := [("age", 7), ("men", 8)]) (N := ["descent", "given", "n", "low", "high", "ages", "within", "age", "men"]) (sc := defScope s_gs_between) (by decide +kernel)) (fun _ _ _ _ _ => by exact (pg_tup rfl (pgs_cons (pg_name (i := 7) sc_gs_between.nd rfl (.inl rfl)) (pgs_cons (pg_name (i := 8) sc_gs_between.nd rfl (.inl rfl)) pgs_nil)))) (fun _ _ _ _ _ => by exact pts_one (PW.pt (pw_and (pt_cmpR op_le (pv 3) (pv 7) (nomark _)) (pw_and1 (pt_cmpR op_le (pv 7) (pv 4) (nomark _)))))) (fun _ _ _ _ _ => by exact (pv 8)))) pa_nil)))
      (pss_one (ps_ret (pe_lst (pa_cons pe_int (pa_cons (pv 6) (pa_cons (pe_sumVals rfl rfl b_sum (pv 5)) pa_nil)))))))))))), ?_⟩
    refine ⟨_, rfl, g, _, 0, _, rfl, rfl, hg, atI_nat (j := 0) rfl, _, rfl, g, _, 1, _, rfl, rfl, hg, atI_nat (j := 1) rfl, _, rfl, g, _, 2, _, rfl, rfl, hg, atI_nat (j := 2) rfl, _, rfl, _, _, rfl, rfl, _, rfl, ?_⟩
    have hif : (Km497.act ⟨b, [], []⟩ (.between n l h)).2 = if Km497.DEEP < n ∨ h < l ∨ 80 < h then Km497.only (-22) else ⟨0, [Km497.between (b.gen n) l h, b.total n]⟩ := rfl
    have hbad : Km497.DEEP < n ∨ h < l ∨ 80 < h → ∀ p, H p = none → Q (.ref p) (upd H p (.lst [.int (-22)])) := fun c => by
      refine q.new (Same.refl _) ?_
      show _ = (Km497Neutral.told (Km497.act ⟨b, [], []⟩ (.between n l h)).2).map V.int
      rw [hif, if_pos c]; rfl
    refine ite2 (fun c => ?_) (fun c => ?_)
    · have c : (3 : Int) < n := of_decide_eq_true c
      exact ⟨(by show 1 ≤ sizeLine; decide), hbad (.inl (by show 3 < n; omega))⟩
    have c : ¬ (3 : Int) < n := fun z => c (decide_eq_true z)
    refine ⟨_, rfl, _, rfl, _, _, rfl, rfl, _, rfl, ?_⟩
    refine ite2 (fun c2 => ?_) (fun c2 => ?_)
    · have c2 : (h : Int) < l := of_decide_eq_true c2
      exact ⟨(by show 1 ≤ sizeLine; decide), hbad (.inr (.inl (by omega)))⟩
    have c2 : ¬ (h : Int) < l := fun z => c2 (decide_eq_true z)
    refine ⟨_, rfl, _, _, rfl, rfl, _, rfl, ?_⟩
    refine ite2 (fun c3 => ?_) (fun c3 => ?_)
    · have c3 : (80 : Int) < h := of_decide_eq_true c3
      exact ⟨(by show 1 ≤ sizeLine; decide), hbad (.inr (.inr (by omega)))⟩
    have c3 : ¬ (80 : Int) < h := fun z => c3 (decide_eq_true z)
    refine ⟨_, rfl, _, rfl, a, dx, ls, lf, rv, fs, b, n, rfl, by omega, O, W.sl, W.s9, fun H1 p1 s1 n1 e1 => ?_⟩
    have R := gen_rep W.g1 W.g2 O.fl O.fe n (by omega)
    have dl := gen_small b fs n (by omega)
    refine lc_items (f := p1) (fun q => decide ((l : Int) ≤ q.1) && decide (q.1 ≤ (h : Int))) (fun q => q.2) rfl e1 dl (fun _ => rfl) (fun q _ H' R' r => ?_) (fun q _ H' R' r => ⟨_, rfl, r⟩) (fun D H2 nD s2 eD => ?_)
    · refine ⟨_, rfl, _, rfl, _, _, rfl, rfl, _, rfl, ?_⟩
      refine ite2 (fun k1 => ?_) (fun k1 => ?_)
      · refine ⟨_, rfl, _, rfl, _, _, rfl, rfl, _, rfl, ?_⟩
        rw [k1, Bool.true_and] at r
        exact r
      · rw [Bool.eq_false_iff.mpr k1, Bool.false_and] at r
        exact r
    have s3 := s1.trans s2
    refine ⟨D, _, rfl, SqL.of eD, _, rfl, _, rfl, p1, _, rfl, s2 _ _ e1, (by show 3 ≤ sizeLine; decide), ?_⟩
    rw [R.between, R.total]
    refine q.new s3 ?_
    show _ = (Km497Neutral.told (Km497.act ⟨b, [], []⟩ (.between n l h)).2).map V.int
    rw [hif, if_neg (show ¬ (Km497.DEEP < n ∨ h < l ∨ 80 < h) by show ¬ (3 < n ∨ h < l ∨ 80 < h); omega)]; rfl
theorem ok_gs_mean {f : Addr} {fd : FuncData} (F : Fun K "gs_mean" "gs_mean" s_gs_mean f fd) (c_LAST_GENERATION : IsI mg "LAST_GENERATION" (3)) (c_OUT_OF_BOUNDS : IsI mg "OUT_OF_BOUNDS" (-22)) (f_generation : Has P w K mg base "generation" ["descent", "n"] 3 (spGen C)) (b_len : mg "len" = none) (c_NOTHING_TO_TELL : IsI mg "NOTHING_TO_TELL" (-33)) (b_sum : mg "sum" = none) (f_ratio : Has P w K mg base "ratio" ["above", "below"] 2 (spRatio)) :
    FnOk P w K mg base CX0 4 f fd ["descent", "given"] (spQ K C 1 fun xs => .mean (xs.getD 0 0)) := by
  refine F.ok sc_gs_mean (fun vs H Q E h => ?_) (fun cdv A outer s H vs Q E hr h => ?_)
  · obtain ⟨a, dx, ls, lf, g, rv, fs, b, xs, rfl, _⟩ := h
    rfl
  · obtain ⟨a, dx, ls, lf, g, rv, fs, b, xs, rfl, O, W, hg, hl, q⟩ := h
    obtain ⟨n, rfl⟩ := one_of hl
    refine ⟨_, (pss_cons (ps_set (i := 2) sc_gs_mean.nd rfl (.inl rfl) (pe_ix ix_list (pv 1) pe_int (fun _ _ => rfl)))
      (pss_cons (ps_if (pt_cmpR op_gt (pv 2) (pe_ci c_LAST_GENERATION) (nomark _)) (pss_one (ps_ret (pe_lst (pa_cons (pe_ci c_OUT_OF_BOUNDS) pa_nil)))) pss_nil)
      (pss_cons (ps_set (i := 3) sc_gs_mean.nd rfl (.inl rfl) (pe_has f_generation (hr.mono (by decide)) (pa_cons (pv 0) (pa_cons (pv 2) pa_nil))))
      (pss_cons (ps_if (pt_cmpR op_eq (pe_callB call_lenD (by rfl) b_len PySem.boot_len (pa_cons (pv 3) pa_nil)) pe_int (nomark _)) (pss_one (ps_ret (pe_lst (pa_cons (pe_ci c_NOTHING_TO_TELL) pa_nil)))) pss_nil)
      (pss_cons (ps_set (i := 4) sc_gs_mean.nd rfl (.inl rfl) (pe_callB (cr_sum rfl) (by rfl) b_sum (by decide +kernel) (pa_cons (pe_lock (pe_lc (own := [("age", 5), ("men", 6)]) (g := gTup K 2 (gCons (gName 5) (gCons (gName 6) (gNil)))) rfl sc_gs_mean.nd (pi_items (pv 3)) (blkOk_by (own := [("age", 5), ("men", 6)]) (N := ["descent", "given", "n", "ages", "together", "age", "men"]) (sc := defScope s_gs_mean) (by decide +kernel)) (fun _ _ _ _ _ => by exact (pg_tup rfl (pgs_cons (pg_name (i := 5) sc_gs_mean.nd rfl (.inl rfl)) (pgs_cons (pg_name (i := 6) sc_gs_mean.nd rfl (.inl rfl)) pgs_nil)))) (fun _ _ _ _ _ => by exact pts_nil) (fun _ _ _ _ _ => by exact (pe_op op_mul (pv 5) (pv 6))))) pa_nil)))
      (pss_one (ps_ret (pe_op op_cat (pe_lst (pa_cons pe_int pa_nil)) (pe_has f_ratio (hr.mono (by decide)) (pa_cons (pv 4) (pa_cons (pe_sumVals rfl rfl b_sum (pv 3)) pa_nil))))))))))), ?_⟩
    refine ⟨_, rfl, g, _, 0, _, rfl, rfl, hg, atI_nat (j := 0) rfl, _, rfl, _, _, rfl, rfl, _, rfl, ?_⟩
    have hif : (Km497.act ⟨b, [], []⟩ (.mean n)).2 = if Km497.DEEP < n then Km497.only (-22) else if b.total n = 0 then Km497.only (-33) else ⟨0, Km497.over ((b.weight n : Int) - ((b.total n * Km497.OFF : Nat) : Int)) (b.total n)⟩ := rfl
    refine ite2 (fun c => ?_) (fun c => ?_)
    · have c : (3 : Int) < n := of_decide_eq_true c
      refine ⟨(by show 1 ≤ sizeLine; decide), q.new (Same.refl _) ?_⟩
      show _ = (Km497Neutral.told (Km497.act ⟨b, [], []⟩ (.mean n)).2).map V.int
      rw [hif, if_pos (show Km497.DEEP < n by show 3 < n; omega)]; rfl
    have c : ¬ (3 : Int) < n := fun z => c (decide_eq_true z)
    rw [if_neg (show ¬ Km497.DEEP < n by show ¬ 3 < n; omega)] at hif
    refine ⟨_, rfl, _, rfl, a, dx, ls, lf, rv, fs, b, n, rfl, by omega, O, W.sl, W.s9, fun H1 p1 s1 n1 e1 => ?_⟩
    have R := gen_rep W.g1 W.g2 O.fl O.fe n (by omega)
    have dl := gen_small b fs n (by omega)
    refine ⟨_, rfl, p1, _, rfl, e1, rfl, _, rfl, ?_⟩
    refine ite2 (fun c2 => ?_) (fun c2 => ?_)
    · have c2 : (((enc (genD b fs n)).length : Nat) : Int) = 0 := V.int.inj (of_decide_eq_true c2)
      have e0 : genD b fs n = [] := List.eq_nil_of_length_eq_zero (by rw [enc_len] at c2; omega)
      refine ⟨(by show 1 ≤ sizeLine; decide), q.new s1 ?_⟩
      show _ = (Km497Neutral.told (Km497.act ⟨b, [], []⟩ (.mean n)).2).map V.int
      rw [hif, if_pos (show b.total n = 0 from R.empty.mp e0)]; rfl
    have c2 : ¬ genD b fs n = [] := fun z => c2 (decide_eq_true (by rw [z]; rfl))
    have t0 : ¬ b.total n = 0 := fun z => c2 (R.empty.mpr z)
    have tb : b.total n < 1000000000 := by
      have h1 := W.gen_total n (by omega)
      have h2 : 40 ^ n ≤ 40 ^ 3 := Nat.pow_le_pow_right (by decide) (by omega)
      show Km497.sum (b.gen n) < 1000000000
      omega
    refine lc_items (f := p1) (fun _ => true) (fun q => q.1 * q.2) rfl e1 dl (fun _ => rfl) (fun q _ H' R' r => r) (fun q hq H' R' r => ?_) (fun D H2 nD s2 eD => ?_)
    · have hm := (R.mem q.1).mp (List.mem_map.mpr ⟨q, hq, rfl⟩)
      exact ⟨_, rfl, _, rfl, _, _, rfl, rfl, .inl ⟨by omega, by omega⟩, r⟩
    have ft : (genD b fs n).filter (fun _ => true) = genD b fs n := List.filter_eq_self.mpr fun _ _ => rfl
    rw [ft] at eD
    have s3 := s1.trans s2
    refine ⟨D, _, rfl, SqL.of eD, (by show 1 ≤ sizeLine; decide), fun p2 n2 => ?_⟩
    have s4 := s3.trans (same_upd (o := .lst [.int 0]) n2)
    refine ⟨_, rfl, _, rfl, p1, _, rfl, (same_upd n2) _ _ (s2 _ _ e1), ?_⟩
    rw [R.weight, R.total]
    refine ⟨_, b.total n, rfl, by omega, tb, fun H3 p3 s5 n3 e3 => ?_⟩
    have e2 : H3 p2 = some (.lst [.int 0]) := s5 _ _ upd_same
    refine ⟨p2, p3, _, _, rfl, rfl, e2, e3, ?_, fun p np => ?_⟩
    · rw [List.length_map, List.length_map, over_is _ _ (by omega)]
      show 1 + 3 ≤ sizeLine
      decide
    refine q.new (s4.trans s5) ?_ p np
    show _ = (Km497Neutral.told (Km497.act ⟨b, [], []⟩ (.mean n)).2).map V.int
    rw [hif, if_neg t0]
    show _ = ((0 : Int) :: Km497Neutral.nums (Km497.over _ _)).map V.int
    rfl
end
end Oos
namespace Oos
open PySem PySem.Spec PyProof.Rows L2
open Km497 (Book Desk)
/-! ### the list of calls, read from a place on -/
/-- how many numbers stand behind a call's own -/
def arity : Nat → Nat
  | 0 => 1 | 1 => 2 | 2 => 2 | 3 => 0 | 4 => 2 | 5 => 1 | 6 => 1 | 7 => 2 | 8 => 2 | 9 => 3 | 10 => 1 | 11 => 1 | 12 => 1 | 13 => 1 | _ => 0
/-- the call of that number -/
def mkCall (k : Nat) (xs : List Nat) : Km497.Call := match k with
  | 0 => .start (xs.getD 0 0)
  | 1 => .sons (xs.getD 0 0) (xs.getD 1 0)
  | 2 => .rule (xs.getD 0 0) (xs.getD 1 0)
  | 3 => .free
  | 4 => .first (xs.getD 0 0) (xs.getD 1 0)
  | 5 => .gap (xs.getD 0 0)
  | 6 => .total (xs.getD 0 0)
  | 7 => .count (xs.getD 0 0) (xs.getD 1 0)
  | 8 => .younger (xs.getD 0 0) (xs.getD 1 0)
  | 9 => .between (xs.getD 0 0) (xs.getD 1 0) (xs.getD 2 0)
  | 10 => .mean (xs.getD 0 0)
  | 11 => .spread (xs.getD 0 0)
  | 12 => .most (xs.getD 0 0)
  | 13 => .lost (xs.getD 0 0)
  | 14 => .balance
  | 15 => .each
  | 16 => .toldSons
  | 17 => .bounds
  | 18 => .back
  | 19 => .again
  | _ => .state
abbrev S0 := Km497Neutral.S
/-- what a call makes of the state, and answers -/
def stepC (s : S0) (x : Km497.Call) : S0 × List Int := match s with
  | some a => (some (Km497.act a x).1, Km497Neutral.told (Km497.act a x).2)
  | none => if Km497Neutral.isStart x = true then
      (if (Km497Neutral.told (Km497.act (Km497.fresh 1) x).2).headD 0 < 0 then none else some (Km497.act (Km497.fresh 1) x).1, Km497Neutral.told (Km497.act (Km497.fresh 1) x).2)
    else (none, [])
theorem shape_some {p : Int} {n k : Nat} (h : PyKm497.shape p = some (n, k)) : ∃ j : Nat, j ≤ 20 ∧ p = (j : Int) ∧ n = arity j ∧ k = 0 := by
  unfold PyKm497.shape at h
  have key : ∀ (j : Nat) (a b : Nat), p = (j : Int) → some (a, b) = some (n, k) → j ≤ 20 → a = arity j → b = 0 → ∃ j : Nat, j ≤ 20 ∧ p = (j : Int) ∧ n = arity j ∧ k = 0 := fun j a b e1 e2 e3 e4 e5 => by
    cases e2
    exact ⟨j, e3, e1, e4, e5⟩
  by_cases c : p = 0
  · rw [if_pos c] at h; exact key 0 _ _ c h (by decide) rfl rfl
  rw [if_neg c] at h
  by_cases c : p = 1
  · rw [if_pos c] at h; exact key 1 _ _ c h (by decide) rfl rfl
  rw [if_neg c] at h
  by_cases c : p = 2
  · rw [if_pos c] at h; exact key 2 _ _ c h (by decide) rfl rfl
  rw [if_neg c] at h
  by_cases c : p = 3
  · rw [if_pos c] at h; exact key 3 _ _ c h (by decide) rfl rfl
  rw [if_neg c] at h
  by_cases c : p = 4
  · rw [if_pos c] at h; exact key 4 _ _ c h (by decide) rfl rfl
  rw [if_neg c] at h
  by_cases c : p = 5
  · rw [if_pos c] at h; exact key 5 _ _ c h (by decide) rfl rfl
  rw [if_neg c] at h
  by_cases c : p = 6
  · rw [if_pos c] at h; exact key 6 _ _ c h (by decide) rfl rfl
  rw [if_neg c] at h
  by_cases c : p = 7
  · rw [if_pos c] at h; exact key 7 _ _ c h (by decide) rfl rfl
  rw [if_neg c] at h
  by_cases c : p = 8
  · rw [if_pos c] at h; exact key 8 _ _ c h (by decide) rfl rfl
  rw [if_neg c] at h
  by_cases c : p = 9
  · rw [if_pos c] at h; exact key 9 _ _ c h (by decide) rfl rfl
  rw [if_neg c] at h
  by_cases c : p = 10
  · rw [if_pos c] at h; exact key 10 _ _ c h (by decide) rfl rfl
  rw [if_neg c] at h
  by_cases c : p = 11
  · rw [if_pos c] at h; exact key 11 _ _ c h (by decide) rfl rfl
  rw [if_neg c] at h
  by_cases c : p = 12
  · rw [if_pos c] at h; exact key 12 _ _ c h (by decide) rfl rfl
  rw [if_neg c] at h
  by_cases c : p = 13
  · rw [if_pos c] at h; exact key 13 _ _ c h (by decide) rfl rfl
  rw [if_neg c] at h
  by_cases c : p = 14
  · rw [if_pos c] at h; exact key 14 _ _ c h (by decide) rfl rfl
  rw [if_neg c] at h
  by_cases c : p = 15
  · rw [if_pos c] at h; exact key 15 _ _ c h (by decide) rfl rfl
  rw [if_neg c] at h
  by_cases c : p = 16
  · rw [if_pos c] at h; exact key 16 _ _ c h (by decide) rfl rfl
  rw [if_neg c] at h
  by_cases c : p = 17
  · rw [if_pos c] at h; exact key 17 _ _ c h (by decide) rfl rfl
  rw [if_neg c] at h
  by_cases c : p = 18
  · rw [if_pos c] at h; exact key 18 _ _ c h (by decide) rfl rfl
  rw [if_neg c] at h
  by_cases c : p = 19
  · rw [if_pos c] at h; exact key 19 _ _ c h (by decide) rfl rfl
  rw [if_neg c] at h
  by_cases c : p = 20
  · rw [if_pos c] at h; exact key 20 _ _ c h (by decide) rfl rfl
  rw [if_neg c] at h
  cases h
theorem len0 {α : Type} {l : List α} (h : l.length = 0) : l = [] := List.eq_nil_of_length_eq_zero h
theorem len1 {α : Type} {l : List α} (h : l.length = 1) : ∃ x, l = [x] := by
  match l, h with
  | [x], _ => exact ⟨x, rfl⟩
theorem len2 {α : Type} {l : List α} (h : l.length = 2) : ∃ x y, l = [x, y] := by
  match l, h with
  | [x, y], _ => exact ⟨x, y, rfl⟩
theorem len3 {α : Type} {l : List α} (h : l.length = 3) : ∃ x y z, l = [x, y, z] := by
  match l, h with
  | [x, y, z], _ => exact ⟨x, y, z, rfl⟩
/-- the specification's step at a call of that number -/
theorem step_is (s : S0) {j : Nat} (hj : j ≤ 20) {args : List Int} (ha : args.length = arity j) :
    Km497Neutral.step s (PyKm497.whole [(j : Int) :: args]) = stepC s (mkCall j (args.map Int.toNat)) := by
  have go : ∀ (c : List (List Int)) (x : Km497.Call), Km497Neutral.callOf c = some x → Km497Neutral.step s c = stepC s x := by
    intro c x h
    unfold Km497Neutral.step
    rw [h]
    cases s <;> rfl
  match j, hj, ha with
  | 0, _, ha => obtain ⟨x, rfl⟩ := len1 ha; exact go _ _ rfl
  | 1, _, ha => obtain ⟨x, y, rfl⟩ := len2 ha; exact go _ _ rfl
  | 2, _, ha => obtain ⟨x, y, rfl⟩ := len2 ha; exact go _ _ rfl
  | 3, _, ha => rw [len0 ha]; exact go _ _ rfl
  | 4, _, ha => obtain ⟨x, y, rfl⟩ := len2 ha; exact go _ _ rfl
  | 5, _, ha => obtain ⟨x, rfl⟩ := len1 ha; exact go _ _ rfl
  | 6, _, ha => obtain ⟨x, rfl⟩ := len1 ha; exact go _ _ rfl
  | 7, _, ha => obtain ⟨x, y, rfl⟩ := len2 ha; exact go _ _ rfl
  | 8, _, ha => obtain ⟨x, y, rfl⟩ := len2 ha; exact go _ _ rfl
  | 9, _, ha => obtain ⟨x, y, z, rfl⟩ := len3 ha; exact go _ _ rfl
  | 10, _, ha => obtain ⟨x, rfl⟩ := len1 ha; exact go _ _ rfl
  | 11, _, ha => obtain ⟨x, rfl⟩ := len1 ha; exact go _ _ rfl
  | 12, _, ha => obtain ⟨x, rfl⟩ := len1 ha; exact go _ _ rfl
  | 13, _, ha => obtain ⟨x, rfl⟩ := len1 ha; exact go _ _ rfl
  | 14, _, ha => rw [len0 ha]; exact go _ _ rfl
  | 15, _, ha => rw [len0 ha]; exact go _ _ rfl
  | 16, _, ha => rw [len0 ha]; exact go _ _ rfl
  | 17, _, ha => rw [len0 ha]; exact go _ _ rfl
  | 18, _, ha => rw [len0 ha]; exact go _ _ rfl
  | 19, _, ha => rw [len0 ha]; exact go _ _ rfl
  | 20, _, ha => rw [len0 ha]; exact go _ _ rfl
  | j + 21, hj, _ => exact absurd hj (by omega)
/-- from the place i on: what is still to be called may be, and answers what lacks -/
structure Rest (l : List Int) (i : Nat) (s : S0) (out : List Int) : Prop where
  ex : ∃ (f : Nat) (raw : List (List (List Int))), PyFlat.calls PyKm497.shape f (l.drop i) = some raw ∧ Km497Neutral.may s (raw.map PyKm497.whole) = true ∧
    out ++ PyFlat.told (PyFlat.played Km497Neutral.step s (raw.map PyKm497.whole)) = PyKm497.answers l
theorem rest_start {l : List Int} (h : PyKm497.answers_asked l = true) : Rest l 0 none [] ∧ (PyKm497.answers l).length ≤ 10000000 := by
  unfold PyKm497.answers_asked at h
  cases e : PyFlat.calls PyKm497.shape l.length l with
  | none => rw [e] at h; cases h
  | some raw =>
    rw [e] at h
    simp only [Bool.and_eq_true] at h
    obtain ⟨⟨⟨⟨_, _⟩, _⟩, ha⟩, hs⟩ := h
    refine ⟨⟨l.length, raw, by rw [List.drop_zero]; exact e, ?_, ?_⟩, of_decide_eq_true hs⟩
    · unfold Km497Neutral.asked at ha
      simp only [Bool.and_eq_true] at ha
      exact ha.2.2.2
    · rw [List.nil_append]
      unfold PyKm497.answers PyKm497.calls
      rw [e]
      rfl
theorem rest_end {l : List Int} {i : Nat} {s : S0} {out : List Int} (h : Rest l i s out) (hi : l.length ≤ i) : out = PyKm497.answers l := by
  obtain ⟨f, raw, h1, _, h3⟩ := h.ex
  rw [List.drop_eq_nil_of_le hi] at h1
  have e : raw = [] := by
    cases f <;> exact (Option.some.inj h1).symm
  rw [e] at h3
  rw [← h3]
  simp [PyFlat.played, PyFlat.told]
theorem rest_step {l : List Int} {i : Nat} {s : S0} {out : List Int} (h : Rest l i s out) (hi : i < l.length) : ∃ j : Nat, j ≤ 20 ∧ l[i]? = some (j : Int) ∧ i + 1 + arity j ≤ l.length ∧
    (stepC s (mkCall j (((l.drop (i + 1)).take (arity j)).map Int.toNat))).2 ≠ [] ∧
    Rest l (i + 1 + arity j) (stepC s (mkCall j (((l.drop (i + 1)).take (arity j)).map Int.toNat))).1
      (out ++ (((stepC s (mkCall j (((l.drop (i + 1)).take (arity j)).map Int.toNat))).2.length : Int) :: (stepC s (mkCall j (((l.drop (i + 1)).take (arity j)).map Int.toNat))).2)) := by
  obtain ⟨f, raw, h1, h2, h3⟩ := h.ex
  have hd : l.drop i = l[i] :: l.drop (i + 1) := List.drop_eq_getElem_cons hi
  rw [hd] at h1
  cases f with
  | zero => cases h1
  | succ f =>
    unfold PyFlat.calls at h1
    cases e1 : PyFlat.call PyKm497.shape (l[i] :: l.drop (i + 1)) with
    | none => rw [e1] at h1; cases h1
    | some ct =>
      obtain ⟨c, t⟩ := ct
      rw [e1] at h1
      dsimp only at h1
      cases e2 : PyFlat.calls PyKm497.shape f t with
      | none => rw [e2] at h1; cases h1
      | some cs =>
        rw [e2] at h1
        cases h1
        unfold PyFlat.call at e1
        dsimp only at e1
        cases e3 : PyKm497.shape l[i] with
        | none => rw [e3] at e1; cases e1
        | some nk =>
          obtain ⟨n, k⟩ := nk
          rw [e3] at e1
          dsimp only at e1
          obtain ⟨j, hj, hp, rfl, rfl⟩ := shape_some e3
          by_cases c4 : (l.drop (i + 1)).length < arity j
          · rw [if_pos c4] at e1; cases e1
          rw [if_neg c4] at e1
          dsimp only [PyFlat.rows] at e1
          cases e1
          have ha : ((l.drop (i + 1)).take (arity j)).length = arity j := by
            rw [List.length_take]; omega
          have hst := step_is s hj ha
          rw [hp] at h2 h3
          rw [List.map_cons] at h2 h3
          unfold Km497Neutral.may at h2
          unfold PyFlat.played at h3
          rw [hst] at h2 h3
          rw [Bool.and_eq_true] at h2
          refine ⟨j, hj, by rw [List.getElem?_eq_getElem hi, hp], by rw [List.length_drop] at c4; omega, ?_, ⟨f, cs, ?_, h2.2, ?_⟩⟩
          · intro z
            rw [z] at h2
            exact absurd h2.1 (by decide)
          · rw [List.drop_drop] at e2
            exact e2
          · rw [List.append_assoc, ← h3]
            congr 1
/-! ### tables of the text, and a call of what stands in one -/
structure IsT (K : PySem.W.Frag) (mg : Str → Option Value) (x : Str) (t : Addr) (xs : List V) : Prop where
  nm : mg x = some (.ref t)
  sq : ∀ H : Hp, SqT K H t xs
theorem pe_tab {X : Cx} {x : Str} {t : Addr} {xs : List V} {pos : Pos} (h : IsT X.K X.mg x t xs) (hg : Gl X x := by rfl) (hdb : (x == ("__debug__" : Str)) = false := by decide) : PE X (.Name x pos) (tC (.ref t)) := pe_glob hg h.nm rfl hdb
theorem isT_of {K : PySem.W.Frag} {mg : Str → Option Value} {x : Str} {t : Addr} {od : Option Addr} {its : Array Value} {n : Nat} {sl : Array (Option Value)} {xs : List V} (h1 : mg x = some (.ref t)) (h2 : K.lookup t = some ⟨.type "tuple", od, .seq its n, sl⟩) (h3 : its.size ≤ sizeLine) (h4 : Vals xs its.toList) : IsT K mg x t xs :=
  ⟨h1, fun H => .inr ⟨_, its, n, h2, rfl, rfl, h3, h4⟩⟩
def tCallH (P : Program) (w : World) (K : PySem.W.Frag) (mg : Str → Option Value) (base : Heap) (k i : Nat) (t : TA) : TE := fun σ H Q => ∃ f sp, σ[i]? = some (some (.ref f)) ∧ Held P w K mg base k f sp ∧ t σ H fun vs H1 => sp vs H1 Q E0
theorem pe_callH {X : Cx} {k i : Nat} {x : Str} {p pos : Pos} {e : Expr} {es : List Expr} {t : TA} (hr : Room k X.A) (ha : PA X (e :: es) t) (hN : X.N[i]? = some x := by rfl) (hv : Vis X.env.scope x := by exact Or.inl rfl)
    (hdb : (x == ("__debug__" : Str)) = false := by decide) (hcd : (x == ("__classdict__" : Str)) = false := by decide)
    (he : starEach (e :: es) X.env = (false, eval e X.env) :: starEach es X.env := by rfl) (hpl : (backTo pos (starEach es X.env)).any (·.1) = false := by rfl) : PE X (.Call (.Name x p) (e :: es) [] pos) (tCallH X.prog X.w X.K X.mg X.base k i t) := by
  refine ⟨fun pins s σ H Q I h => ?_⟩
  obtain ⟨f, sp, hs, hH, ht⟩ := h
  obtain ⟨fd, ps, F, hk, hb⟩ := hH.ex
  refine (pe_callL (i := i) (f := f) (sp := sp) (dvs := []) (E := E0) F hr hN hv hk hb .nil pass0 ha hdb hcd he hpl).run pins s σ H Q I ⟨hs, ?_⟩
  show t σ H fun vs H1 => sp (vs ++ []) H1 Q E0
  simp only [List.append_nil]
  exact ht
/-! ### the object, whatever it is made of -/
structure Rp where
  St : Hp → Addr → S0 → (Addr → Prop) → Prop
  keep : ∀ {H H' : Hp} {a : Addr} {s : S0} {F : Addr → Prop}, St H a s F → (∀ b o, F b ∨ (∃ xs, o = .tup xs) → H b = some o → H' b = some o) → St H' a s F
  live : ∀ {H : Hp} {a : Addr} {s : S0} {F : Addr → Prop} {b : Addr}, St H a s F → F b → ∃ o, H b = some o
/-- the call of number j -/
def spCall (R : Rp) (K : PySem.W.Frag) (j : Nat) : Sp := fun vs H Q _ => ∃ (a g : Addr) (s : S0) (F : Addr → Prop) (xs : List Nat), vs = [.ref a, .ref g] ∧ R.St H a s F ∧ H g = some (.lst (nums xs)) ∧ ¬ F g ∧ xs.length = arity j ∧ (stepC s (mkCall j xs)).2 ≠ [] ∧
  ∀ (H' : Hp) (p : Addr) (F' : Addr → Prop), R.St H' a (stepC s (mkCall j xs)).1 F' → (∀ b o, H b = some o → ¬ F b → H' b = some o) → (∀ b, F' b → F b ∨ H b = none) → ¬ F' p → H p = none →
    H' p = some (.lst ((stepC s (mkCall j xs)).2.map V.int)) → Q (.ref p) H'
/-- the object made -/
def spMake (R : Rp) (C : Addr) : Sp := fun vs H Q _ => ∃ (p dx : Addr), vs = [.ref p] ∧ H p = some (.ins C dx []) ∧
  ∀ (H' : Hp) (F : Addr → Prop), R.St H' p none F → (∀ b o, H b = some o → b ≠ p → H' b = some o) → (∀ b, F b → b = p ∨ H b = none) → Q .non H'
/-- answers -/
def spAns (K : PySem.W.Frag) : Sp := fun vs H Q _ => ∃ (a : Addr) (ns : List Int), vs = [.ref a] ∧ SqL K H a (ns.map V.int) ∧ (∀ x ∈ ns, 0 ≤ x) ∧ PyKm497.answers_asked ns = true ∧
  ∀ (H' : Hp) (p : Addr), H' p = some (.lst ((PyKm497.answers ns).map V.int)) → Q (.ref p) H'
theorem cut_is (xs : List V) (i n : Nat) (h : i + n ≤ xs.length) : cutV xs (some (i : Int)) (some ((i + n : Nat) : Int)) = (xs.drop i).take n := by
  unfold cutV
  rw [HT.sIx_nat, HT.sIx_nat, Nat.min_eq_left (by omega), Nat.min_eq_left (by omega), show i + n - i = n by omega]
theorem args_nums {ns : List Int} (h : ∀ x ∈ ns, 0 ≤ x) : ns.map V.int = nums (ns.map Int.toNat) := by
  unfold nums
  rw [List.map_map]
  apply List.map_congr_left
  intro x hx
  show V.int x = V.int ((x.toNat : Nat) : Int)
  rw [Int.toNat_of_nonneg (h x hx)]
def sizesV : List V := (List.range 21).map fun j => V.int (arity j : Nat)
end Oos
namespace Oos
open PySem PySem.Spec PyProof.Rows L2
section
variable {P : Program} {w : World} {K : PySem.W.Frag} {mg : Str → Option Value} {base : Heap} {C aC aS : Addr} {fs : List Addr} {R : Rp}
theorem ok_answers {f : Addr} {fd : FuncData} (F : Fun K "answers" "answers" s_answers f fd) (hfs : ∀ j, j ≤ 20 → ∃ f, fs[j]? = some f ∧ Held P w K mg base 5 f (spCall R K j)) (k_Descent : HasC P w K mg base C "Descent" ["self"] 2 (spMake R C)) (b_len : mg "len" = none) (t_CALLS : IsT K mg "CALLS" aC (fs.map V.ref)) (t_SIZES : IsT K mg "SIZES" aS sizesV) :
    FnOk P w K mg base CX0 6 f fd ["calls"] (spAns K) := by
  refine F.ok sc_answers (fun vs H Q E h => ?_) (fun cdv A outer s H vs Q E hr h => ?_)
  · obtain ⟨a, ns, rfl, _⟩ := h
    rfl
  · obtain ⟨a, ns, rfl, hA, h0, hask, q⟩ := h
    obtain ⟨rest0, short⟩ := rest_start hask
    refine ⟨_, (pss_cons (ps_set (i := 1) sc_answers.nd rfl (.inl rfl) (pe_hasC0 k_Descent (hr.mono (by decide))))
      (pss_cons (ps_set (i := 2) sc_answers.nd rfl (.inl rfl) (pe_lst pa_nil))
      (pss_cons (ps_set (i := 3) sc_answers.nd rfl (.inl rfl) pe_int)
      (pss_cons (ps_while PassesOwn.never (pt_cmpR op_lt (pv 3) (pe_callB call_len_seq (by rfl) b_len PySem.boot_len (pa_cons (pv 0) pa_nil)) (nomark _)) (pss_cons (ps_set (i := 4) sc_answers.nd rfl (.inl rfl) (pe_ix ix_tup (pe_tab t_CALLS) (pe_ix ix_list (pv 0) (pv 3) (fun _ _ => rfl)) (fun _ _ => rfl))) (pss_cons (ps_set (i := 5) sc_answers.nd rfl (.inl rfl) (pe_ix ix_tup (pe_tab t_SIZES) (pe_ix ix_list (pv 0) (pv 3) (fun _ _ => rfl)) (fun _ _ => rfl))) (pss_cons (ps_set (i := 6) sc_answers.nd rfl (.inl rfl) (pe_op op_add (pe_op op_add (pv 3) pe_int) (pv 5))) (pss_cons (ps_set (i := 7) sc_answers.nd rfl (.inl rfl) (pe_callH (i := 4) (k := 5) (hr.mono (by decide)) (pa_cons (pv 1) (pa_cons (pe_slice sl_list (pv 0) (po_some (pe_op op_add (pv 3) pe_int)) (po_some (pv 6))) pa_nil)))) (pss_cons (ps_expr (pe_bm PySem.F.plainAttrs_list PySem.F.slot_list_append PySem.F.type_list_append mt_append (pv 2) (pa_cons (pe_callB call_len_seq (by rfl) b_len PySem.boot_len (pa_cons (pv 7) pa_nil)) pa_nil))) (pss_cons (ps_expr (pe_bm PySem.F.plainAttrs_list PySem.F.slot_list_extend PySem.F.type_list_extend mt_extend (pv 2) (pa_cons (pv 7) pa_nil))) (pss_one (ps_set (i := 3) sc_answers.nd rfl (.inl rfl) (pv 6))))))))))
      (pss_one (ps_ret (pv 2))))))), ?_⟩
    intro x dx nx ndx nex
    refine ⟨x, dx, rfl, upd_same, fun H1 F0 St0 fr0 fo0 => ⟨rfl, ?_⟩⟩
    have s1 : Same H H1 := fun b o e => fr0 b o (by rw [upd_ne (ne_of_none e nx), upd_ne (ne_of_none e ndx)]; exact e) (ne_of_none e nx)
    have F0n : ∀ b, F0 b → H b = none := fun b hb => by
      rcases fo0 b hb with e | e
      · rw [e]; exact nx
      · cases c : H b with
        | none => rfl
        | some o =>
          rw [upd_ne (ne_of_none c nx), upd_ne (ne_of_none c ndx), c] at e
          cases e
    refine ⟨Nat.zero_le _, fun lt nlt => ?_⟩
    have nF : ¬ F0 lt := fun z => by
      obtain ⟨o, e⟩ := R.live St0 z
      rw [nlt] at e
      cases e
    refine ⟨fun m σ H' => ∃ (i : Nat) (s : S0) (out : List Int) (F : Addr → Prop) (y4 y5 y6 y7 : Option V), m = ns.length - i ∧ σ = [some (.ref a), some (.ref x), some (.ref lt), some (.int (i : Int)), y4, y5, y6, y7] ∧ Same H H' ∧ (∀ b, F b → H b = none) ∧
      R.St H' x s F ∧ ¬ F lt ∧ H' lt = some (.lst (out.map V.int)) ∧ Rest ns i s out, ⟨ns.length, 0, none, [], F0, none, none, none, none, rfl, rfl, s1.trans (same_upd nlt), F0n, R.keep St0 (fun b o hb e => (same_upd nlt) b o e), nF, upd_same, rest0⟩, fun m σ H' hW => ?_⟩
    obtain ⟨i, s, out, F, y4, y5, y6, y7, em, rfl, s2, Fn, St2, nF2, eo, rest⟩ := hW
    have hA2 := s2.seq hA
    refine ⟨_, rfl, _, rfl, a, _, rfl, .inl hA2, _, _, rfl, rfl, _, rfl, ?_⟩
    refine ite2 (fun c => ?_) (fun c => ?_)
    · have c : (i : Int) < ((ns.map V.int).length : Nat) := of_decide_eq_true c
      rw [List.length_map] at c
      have hi : i < ns.length := by omega
      obtain ⟨j, hj, hij, hlen, hne, rest'⟩ := rest_step rest hi
      generalize hxs : ((ns.drop (i + 1)).take (arity j)).map Int.toNat = xs at *
      have hsl : (((ns.map V.int).drop (i + 1)).take (arity j)) = nums xs := by
        rw [← List.map_drop, ← List.map_take, ← hxs]
        exact args_nums fun x hx => h0 x (List.mem_of_mem_drop (List.mem_of_mem_take hx))
      have hxl : xs.length = arity j := by
        rw [← nums_len, ← hsl, List.length_take, List.length_drop, List.length_map]
        omega
      have at1 : (ns.map V.int)[i]? = some (.int (j : Int)) := by
        rw [List.getElem?_map, hij]; rfl
      obtain ⟨fj, hf1, hf2⟩ := hfs j hj
      have at2 : (fs.map V.ref)[j]? = some (.ref fj) := by
        rw [List.getElem?_map, hf1]; rfl
      have at3 : sizesV[j]? = some (.int (arity j : Nat)) := by
        unfold sizesV
        rw [List.getElem?_map, List.getElem?_range (by omega)]; rfl
      refine ⟨fun σ' H'' => ∃ (y4 y5 y6 y7 : Option V) (F' : Addr → Prop), σ' = [some (.ref a), some (.ref x), some (.ref lt), some (.int ((i + 1 + arity j : Nat) : Int)), y4, y5, y6, y7] ∧ Same H H'' ∧ (∀ b, F' b → H b = none) ∧ R.St H'' x (stepC s (mkCall j xs)).1 F' ∧ ¬ F' lt ∧
        H'' lt = some (.lst ((out ++ (((stepC s (mkCall j xs)).2.length : Int) :: (stepC s (mkCall j xs)).2)).map V.int)), fun σ' H'' hN => ?_, ?_⟩
      · obtain ⟨z4, z5, z6, z7, F', e1, e2, e3, e4, e5, e6⟩ := hN
        exact ⟨ns.length - (i + 1 + arity j), by omega, i + 1 + arity j, _, _, F', z4, z5, z6, z7, rfl, e1, e2, e3, e4, e5, e6, rest'⟩
      refine ⟨_, rfl, _, rfl, a, _, _, _, rfl, rfl, hA2, atI_nat at1, aC, _, _, _, rfl, rfl, t_CALLS.sq _, atI_nat at2, ?_⟩
      refine ⟨_, rfl, _, rfl, a, _, _, _, rfl, rfl, hA2, atI_nat at1, aS, _, _, _, rfl, rfl, t_SIZES.sq _, atI_nat at3, ?_⟩
      refine ⟨_, rfl, _, _, rfl, rfl, _, rfl, _, _, rfl, rfl, ?_⟩
      refine ⟨fj, _, rfl, hf2, _, rfl, _, rfl, _, rfl, _, _, rfl, rfl, _, rfl, _, rfl, _, rfl, a, _, rfl, hA2, fun g ng => ?_⟩
      have sg : Same H' (upd H' g (.lst (cutV (ns.map V.int) (some ((i : Int) + 1)) (some ((i : Int) + 1 + (arity j : Nat)))))) := same_upd ng
      have ecut : cutV (ns.map V.int) (some ((i : Int) + 1)) (some ((i : Int) + 1 + (arity j : Nat))) = nums xs := by
        have h1 := cut_is (ns.map V.int) (i + 1) (arity j) (by rw [List.length_map]; omega)
        rw [← hsl, ← h1]
        congr 2
      have nFg : ¬ F g := fun z => by
        obtain ⟨o, e⟩ := R.live St2 z
        rw [ng] at e
        cases e
      refine ⟨x, g, s, F, xs, rfl, R.keep St2 (fun b o _ e => sg b o e), (by rw [← ecut]; exact upd_same), nFg, hxl, hne, fun H3 p F' St3 fr fo nFp np ep => ?_⟩
      have elt : H3 lt = some (.lst (out.map V.int)) := fr lt _ (sg _ _ eo) nF2
      have nFlt : ¬ F' lt := fun z => by
        rcases fo lt z with e | e
        · exact nF2 e
        · rw [sg _ _ eo] at e
          cases e
      have plt : p ≠ lt := fun z => by
        rw [z, sg _ _ eo] at np
        cases np
      have s3 : Same H H3 := fun b o e => fr b o (sg _ _ (s2 _ _ e)) (fun z => by
        rw [Fn b z] at e
        cases e)
      have F'n : ∀ b, F' b → H b = none := fun b z => by
        rcases fo b z with e | e
        · exact Fn b e
        · exact s2.free (sg.free e)
      have nlt0 : H lt = none := s1.free nlt
      have len1 : out.length + 1 + (stepC s (mkCall j xs)).2.length ≤ 10000000 := by
        obtain ⟨_, _, _, _, e⟩ := rest'.ex
        rw [← e, List.length_append, List.length_append, List.length_cons] at short
        omega
      -- told.append(len(answer))
      refine ⟨_, rfl, .inl ⟨rfl, _, SqL.of elt⟩, _, rfl, p, _, rfl, .inl (SqL.of ep), lt, _, _, rfl, rfl, elt, ?_, ?_⟩
      · rw [List.length_map, sizeLine_eq]
        omega
      -- told.extend(answer)
      refine ⟨_, rfl, .inl ⟨rfl, _, SqL.of upd_same⟩, _, rfl, lt, p, _, _, rfl, rfl, upd_same, (by rw [upd_ne plt]; exact ep), ?_, ?_⟩
      · rw [List.length_append, List.length_map, List.length_map, sizeLine_eq]
        show out.length + 1 + _ ≤ _
        omega
      refine ⟨_, rfl, ?_⟩
      refine ⟨some (.ref fj), some (.int (arity j : Nat)), some (.int ((i : Int) + 1 + (arity j : Nat))), some (.ref p), F', rfl, Same.over (Same.over s3 nlt0) nlt0, F'n, R.keep St3 (fun b o hb e => ?_), nFlt, ?_⟩
      · have hb' : b ≠ lt := fun z => by
          rcases hb with hb | ⟨xs', hb⟩
          · exact nFlt (z ▸ hb)
          · rw [z, elt, hb] at e
            cases e
        rw [upd_ne hb', upd_ne hb']
        exact e
      · rw [upd_same, List.length_map, List.map_append, List.map_cons, List.append_assoc]
        rfl
    · have c : ¬ (i : Int) < ((ns.map V.int).length : Nat) := fun z => c (decide_eq_true z)
      rw [List.length_map] at c
      rw [rest_end rest (by omega)] at eo
      exact ⟨_, rfl, q H' lt eo⟩
end
end Oos
namespace Oos
open PySem PySem.Spec PyProof.Rows L2
open Km497 (Book Desk)
/-! ### heaps in which some places change -/
/-- tuples stay -/
def TS (H H' : Hp) : Prop := ∀ b xs, H b = some (.tup xs) → H' b = some (.tup xs)
theorem same_ts {H H' : Hp} (s : Same H H') : TS H H' := fun b xs e => s b _ e
theorem TS.trans {H H' H'' : Hp} (s : TS H H') (s' : TS H' H'') : TS H H'' := fun b xs e => s' _ _ (s _ _ e)
theorem ts_lst {H : Hp} {p : Addr} {l : List V} {o : HO} (h : H p = some (.lst l)) : TS H (upd H p o) := fun b xs e => by
  rw [upd_ne (ne_of e h (by intro z; cases z))]; exact e
theorem ts_ins {H : Hp} {p C dx : Addr} {l : List (Str × V)} {o : HO} (h : H p = some (.ins C dx l)) : TS H (upd H p o) := fun b xs e => by
  rw [upd_ne (ne_of e h (by intro z; cases z))]; exact e
/-- all but the place a stay -/
def Keep (a : Addr) (H H' : Hp) : Prop := ∀ b o, H b = some o → b ≠ a → H' b = some o
theorem Keep.refl (a : Addr) (H : Hp) : Keep a H H := fun _ _ e _ => e
theorem Keep.trans {a : Addr} {H H' H'' : Hp} (s : Keep a H H') (s' : Keep a H' H'') : Keep a H H'' := fun b o e n => s' _ _ (s _ _ e n) n
theorem Keep.store (a : Addr) (H : Hp) (o : HO) : Keep a H (upd H a o) := fun b x e n => by rw [upd_ne n]; exact e
theorem Keep.of {a : Addr} {H H' : Hp} (s : Same H H') : Keep a H H' := fun b o e _ => s _ _ e
theorem Keep.ts {a C dx : Addr} {H H' : Hp} {fl : List (Str × V)} (s : Keep a H H') (h : H a = some (.ins C dx fl)) : TS H H' := fun b xs e => s _ _ e (ne_of e h (by intro z; cases z))
theorem ne_new {H : Hp} {p a : Addr} {x : HO} (np : H p = none) (h : H a = some x) : p ≠ a := fun z => by
  rw [z, h] at np
  cases np
theorem Keep.free {a : Addr} {H H' : Hp} {x : HO} (s : Keep a H H') (h : H' a = some x) {p : Addr} (np : H' p = none) : H p = none := by
  cases e : H p with
  | none => rfl
  | some o =>
    rw [s _ _ e (ne_new np h)] at np
    cases np
/-- what was not one's own stays; what is one's own now was so, or is new; nothing goes -/
structure Fr (H : Hp) (F : Addr → Prop) (H' : Hp) (F' : Addr → Prop) : Prop where
  fr : ∀ b o, H b = some o → ¬ F b → H' b = some o
  fo : ∀ b, F' b → F b ∨ H b = none
  lv : ∀ b, H' b = none → H b = none
theorem Fr.trans {H H' H'' : Hp} {F F' F'' : Addr → Prop} (s : Fr H F H' F') (t : Fr H' F' H'' F'') : Fr H F H'' F'' where
  fr := fun b o e n => t.fr b o (s.fr b o e n) fun z => by
    rcases s.fo b z with q | q
    · exact n q
    · rw [q] at e; cases e
  fo := fun b z => by
    rcases t.fo b z with q | q
    · exact s.fo b q
    · exact .inr (s.lv b q)
  lv := fun b e => s.lv b (t.lv b e)
theorem Fr.same {H H' : Hp} {F : Addr → Prop} (s : Same H H') : Fr H F H' F := ⟨fun b o e _ => s _ _ e, fun _ z => .inl z, fun b e => s.free e⟩
theorem Fr.refl (H : Hp) (F : Addr → Prop) : Fr H F H F := ⟨fun _ _ e _ => e, fun _ z => .inl z, fun _ e => e⟩
/-- a place of one's own is written -/
theorem Fr.put {H : Hp} {F : Addr → Prop} {p : Addr} {x o : HO} (hp : F p) (h : H p = some x) : Fr H F (upd H p o) F where
  fr := fun b y e n => by
    have c : b ≠ p := fun z => n (by rw [z]; exact hp)
    rw [upd_ne c]; exact e
  fo := fun _ z => .inl z
  lv := fun b e => by
    by_cases c : b = p
    · rw [c, upd_same] at e; cases e
    · rw [upd_ne c] at e; exact e
/-! ### the changes that are kept -/
theorem RuleV.ts {H H' : Hp} {rv : V} (s : TS H H') : ∀ {r : Option (Nat × Nat)}, RuleV H rv r → RuleV H' rv r
  | none, h => h
  | some r, ⟨t, h1, h2⟩ => ⟨t, h1, s _ _ h2⟩
/-- the tuple at t tells the book b -/
structure Snap (H : Hp) (t : Addr) (b : Book) : Prop where
  ex : ∃ (t1 t2 : Addr) (rv : V) (fs : List Nat), H t = some (.tup [.int (b.gap : Int), .ref t1, .ref t2, rv]) ∧ H t1 = some (.tup (nums b.sons)) ∧ H t2 = some (.tup (nums fs)) ∧ fs.length = 21 ∧ b.first = firstRow fs ∧ RuleV H rv b.rule
theorem Snap.ts {H H' : Hp} {t : Addr} {b : Book} (s : TS H H') (h : Snap H t b) : Snap H' t b := by
  obtain ⟨t1, t2, rv, fs, h1, h2, h3, h4, h5, h6⟩ := h.ex
  exact ⟨t1, t2, rv, fs, s _ _ h1, s _ _ h2, s _ _ h3, h4, h5, h6.ts s⟩
def Kept (H : Hp) : List Addr → List Book → Prop
  | [], [] => True
  | t :: ts, b :: bs => Snap H t b ∧ Kept H ts bs
  | [], _ :: _ => False
  | _ :: _, [] => False
theorem Kept.ts {H H' : Hp} (s : TS H H') : ∀ {ts : List Addr} {bs : List Book}, Kept H ts bs → Kept H' ts bs
  | [], [], _ => trivial
  | _ :: _, _ :: _, h => ⟨h.1.ts s, Kept.ts s h.2⟩
  | [], _ :: _, h => h.elim
  | _ :: _, [], h => h.elim
theorem Kept.len {H : Hp} : ∀ {ts : List Addr} {bs : List Book}, Kept H ts bs → ts.length = bs.length
  | [], [], _ => rfl
  | _ :: _, _ :: _, h => congrArg (· + 1) (Kept.len h.2)
  | [], _ :: _, h => h.elim
  | _ :: _, [], h => h.elim
theorem Kept.take {H : Hp} : ∀ (n : Nat) {ts : List Addr} {bs : List Book}, Kept H ts bs → Kept H (ts.take n) (bs.take n)
  | 0, _, _, _ => by rw [List.take_zero, List.take_zero]; trivial
  | _ + 1, [], [], _ => trivial
  | n + 1, _ :: _, _ :: _, h => ⟨h.1, Kept.take n h.2⟩
  | _ + 1, [], _ :: _, h => h.elim
  | _ + 1, _ :: _, [], h => h.elim
/-! ### the object with its changes -/
structure Z where
  x : Dx
  ls : Addr
  lf : Addr
  rv : V
  fs : List Nat
  es : List Addr
  ts : List Addr
def own (a : Addr) (z : Z) : Addr → Prop := fun b => b = a ∨ b = z.ls ∨ b = z.lf ∨ b = z.x.le ∨ b = z.x.ll
structure Lay (C : Addr) (H : Hp) (a : Addr) (z : Z) (d : Desk) : Prop where
  ob : Obj4 C H a z.x z.ls z.lf z.rv z.fs d.now
  e : H z.x.le = some (.lst (z.es.map V.ref))
  l : H z.x.ll = some (.lst (z.ts.map V.ref))
  pe : Kept H z.es.reverse d.past
  pl : Kept H z.ts.reverse d.future
  n1 : z.ls ≠ z.lf
  n2 : z.ls ≠ z.x.le
  n3 : z.ls ≠ z.x.ll
  n4 : z.lf ≠ z.x.le
  n5 : z.lf ≠ z.x.ll
  n6 : z.x.le ≠ z.x.ll
section
variable {C : Addr} {H H' : Hp} {a : Addr} {z : Z} {d : Desk}
theorem Lay.keep (h : Lay C H a z d) (s : ∀ b o, own a z b → H b = some o → H' b = some o) (t : TS H H') : Lay C H' a z d where
  ob := ⟨s _ _ (.inl rfl) h.ob.o, s _ _ (.inr (.inl rfl)) h.ob.s, s _ _ (.inr (.inr (.inl rfl))) h.ob.f, h.ob.fl, h.ob.fe, h.ob.r.ts t⟩
  e := s _ _ (.inr (.inr (.inr (.inl rfl)))) h.e
  l := s _ _ (.inr (.inr (.inr (.inr rfl)))) h.l
  pe := h.pe.ts t
  pl := h.pl.ts t
  n1 := h.n1
  n2 := h.n2
  n3 := h.n3
  n4 := h.n4
  n5 := h.n5
  n6 := h.n6
theorem Lay.same (h : Lay C H a z d) (s : Same H H') : Lay C H' a z d := h.keep (fun b o _ e => s b o e) (same_ts s)
theorem Lay.live (h : Lay C H a z d) {b : Addr} (hb : own a z b) : ∃ o, H b = some o := by
  rcases hb with e | e | e | e | e
  · exact ⟨_, e ▸ h.ob.o⟩
  · exact ⟨_, e ▸ h.ob.s⟩
  · exact ⟨_, e ▸ h.ob.f⟩
  · exact ⟨_, e ▸ h.e⟩
  · exact ⟨_, e ▸ h.l⟩
theorem Lay.notOwn (h : Lay C H a z d) {p : Addr} (np : H p = none) : ¬ own a z p := fun w => by
  obtain ⟨o, e⟩ := h.live w
  rw [np] at e
  cases e
theorem Lay.sons (h : Lay C H a z d) (l : List Nat) : Lay C (upd H z.ls (.lst (nums l))) a z ⟨{ d.now with sons := l }, d.past, d.future⟩ where
  ob := ⟨by rw [upd_ne (ne_of h.ob.o h.ob.s (by intro z; cases z))]; exact h.ob.o, upd_same, by rw [upd_ne h.n1.symm]; exact h.ob.f, h.ob.fl, h.ob.fe, h.ob.r.ts (ts_lst h.ob.s)⟩
  e := by rw [upd_ne h.n2.symm]; exact h.e
  l := by rw [upd_ne h.n3.symm]; exact h.l
  pe := h.pe.ts (ts_lst h.ob.s)
  pl := h.pl.ts (ts_lst h.ob.s)
  n1 := h.n1
  n2 := h.n2
  n3 := h.n3
  n4 := h.n4
  n5 := h.n5
  n6 := h.n6
theorem Lay.firsts (h : Lay C H a z d) (l : List Nat) (hl : l.length = 21) : Lay C (upd H z.lf (.lst (nums l))) a { z with fs := l } ⟨{ d.now with first := firstRow l }, d.past, d.future⟩ where
  ob := ⟨by rw [upd_ne (ne_of h.ob.o h.ob.f (by intro z; cases z))]; exact h.ob.o, by rw [upd_ne h.n1]; exact h.ob.s, upd_same, hl, rfl, h.ob.r.ts (ts_lst h.ob.f)⟩
  e := by rw [upd_ne h.n4.symm]; exact h.e
  l := by rw [upd_ne h.n5.symm]; exact h.l
  pe := h.pe.ts (ts_lst h.ob.f)
  pl := h.pl.ts (ts_lst h.ob.f)
  n1 := h.n1
  n2 := h.n2
  n3 := h.n3
  n4 := h.n4
  n5 := h.n5
  n6 := h.n6
theorem put_gap (g g' : Nat) (ls lf : Addr) (rv : V) (x : Dx) : putF ("gap" : Str) (.int (g' : Int)) (flds g ls lf rv x) = flds g' ls lf rv x := put_here
theorem put_rule (g : Nat) (ls lf : Addr) (rv rv' : V) (x : Dx) : putF ("rule" : Str) rv' (flds g ls lf rv x) = flds g ls lf rv' x :=
  (put_past (by decide +kernel)).trans (congrArg _ ((put_past (by decide +kernel)).trans (congrArg _ ((put_past (by decide +kernel)).trans (congrArg _ put_here)))))
theorem put_sons (g : Nat) (ls ls' lf : Addr) (rv : V) (x : Dx) : putF ("sons" : Str) (.ref ls') (flds g ls lf rv x) = flds g ls' lf rv x :=
  (put_past (by decide +kernel)).trans (congrArg _ put_here)
theorem put_firsts (g : Nat) (ls lf lf' : Addr) (rv : V) (x : Dx) : putF ("firsts" : Str) (.ref lf') (flds g ls lf rv x) = flds g ls lf' rv x :=
  (put_past (by decide +kernel)).trans (congrArg _ ((put_past (by decide +kernel)).trans (congrArg _ put_here)))
theorem put_earlier (g : Nat) (ls lf : Addr) (rv : V) (x : Dx) (le' : Addr) : putF ("earlier" : Str) (.ref le') (flds g ls lf rv x) = flds g ls lf rv ⟨x.d, le', x.ll⟩ :=
  (put_past (by decide +kernel)).trans (congrArg _ ((put_past (by decide +kernel)).trans (congrArg _ ((put_past (by decide +kernel)).trans (congrArg _ ((put_past (by decide +kernel)).trans (congrArg _ put_here)))))))
theorem put_later (g : Nat) (ls lf : Addr) (rv : V) (x : Dx) (ll' : Addr) : putF ("later" : Str) (.ref ll') (flds g ls lf rv x) = flds g ls lf rv ⟨x.d, x.le, ll'⟩ :=
  (put_past (by decide +kernel)).trans (congrArg _ ((put_past (by decide +kernel)).trans (congrArg _ ((put_past (by decide +kernel)).trans (congrArg _ ((put_past (by decide +kernel)).trans (congrArg _ ((put_past (by decide +kernel)).trans (congrArg _ put_here)))))))))
theorem Lay.onA (h : Lay C H a z d) {b : Book} {rv : V} (hs : b.sons = d.now.sons) (hf : b.first = d.now.first) (hr : RuleV (upd H a (.ins C z.x.d (flds b.gap z.ls z.lf rv z.x))) rv b.rule) :
    Lay C (upd H a (.ins C z.x.d (flds b.gap z.ls z.lf rv z.x))) a { z with rv := rv } ⟨b, d.past, d.future⟩ where
  ob := ⟨upd_same, by rw [upd_ne (ne_of h.ob.s h.ob.o (by intro z; cases z)), hs]; exact h.ob.s, by rw [upd_ne (ne_of h.ob.f h.ob.o (by intro z; cases z))]; exact h.ob.f, h.ob.fl, hf.trans h.ob.fe, hr⟩
  e := by rw [upd_ne (ne_of h.e h.ob.o (by intro z; cases z))]; exact h.e
  l := by rw [upd_ne (ne_of h.l h.ob.o (by intro z; cases z))]; exact h.l
  pe := h.pe.ts (ts_ins h.ob.o)
  pl := h.pl.ts (ts_ins h.ob.o)
  n1 := h.n1
  n2 := h.n2
  n3 := h.n3
  n4 := h.n4
  n5 := h.n5
  n6 := h.n6
end
structure WfD (d : Desk) : Prop where
  now : Wf d.now
  past : ∀ b ∈ d.past, Wf b
  future : ∀ b ∈ d.future, Wf b
  len : d.past.length + d.future.length ≤ 20
/-- the object as the list of calls sees it -/
def SD : S0 → Desk → Prop
  | none, _ => True
  | some d', d => d = d' ∧ WfD d
def RP (C : Addr) : Rp where
  St := fun H a s F => ∃ z d, Lay C H a z d ∧ F = own a z ∧ SD s d
  keep := fun {H H' a s F} h k => by
    obtain ⟨z, d, O, rfl, hs⟩ := h
    exact ⟨z, d, O.keep (fun b o hb e => k b o (.inl hb) e) (fun b xs e => k b _ (.inr ⟨xs, rfl⟩) e), rfl, hs⟩
  live := fun {H a s F b} h hb => by
    obtain ⟨z, d, O, rfl, hs⟩ := h
    exact O.live hb
/-! ### the methods -/
def isObj (fl : List (Str × V)) : Prop := fl = [] ∨ ∃ g ls lf rv x, fl = flds g ls lf rv x
def spBegin (C : Addr) : Sp := fun vs H Q _ => ∃ (a dx : Addr) (g : Nat) (fl : List (Str × V)), vs = [.ref a, .int (g : Int)] ∧ H a = some (.ins C dx fl) ∧ isObj fl ∧
  ∀ (H' : Hp) (z : Z), Lay C H' a z (Km497.fresh g) → Keep a H H' → (∀ b, own a z b → b = a ∨ H b = none) → Q .non H'
def spSnap (C : Addr) : Sp := fun vs H Q _ => ∃ (a : Addr) (dx : Dx) (ls lf : Addr) (rv : V) (fs : List Nat) (b : Book), vs = [.ref a] ∧ Obj4 C H a dx ls lf rv fs b ∧
  ∀ (H' : Hp) (t : Addr), Same H H' → H t = none → Snap H' t b → Q (.ref t) H'
def spPut (C : Addr) : Sp := fun vs H Q _ => ∃ (a t : Addr) (g : Nat) (dx : Dx) (ls lf : Addr) (rv : V) (b : Book), vs = [.ref a, .ref t] ∧ H a = some (.ins C dx.d (flds g ls lf rv dx)) ∧ Snap H t b ∧
  ∀ (H' : Hp) (ls' lf' : Addr) (rv' : V) (fs' : List Nat), Obj4 C H' a dx ls' lf' rv' fs' b → Keep a H H' → H ls' = none → H lf' = none → ls' ≠ lf' → Q .non H'
def spMark (C : Addr) : Sp := fun vs H Q _ => ∃ (a : Addr) (z : Z) (d : Desk), vs = [.ref a] ∧ Lay C H a z d ∧ d.past.length ≤ 20 ∧
  ∀ (H' : Hp) (z' : Z), Lay C H' a z' ⟨d.now, (d.now :: d.past).take 20, []⟩ → Fr H (own a z) H' (own a z') → Q .non H'
def spTake (C : Addr) : Sp := fun vs H Q _ => ∃ (a : Addr) (z : Z) (d : Desk) (k : Book) (r : List Book), vs = [.ref a] ∧ Lay C H a z d ∧ d.past = k :: r ∧ d.future.length ≤ 20 ∧
  ∀ (H' : Hp) (z' : Z), Lay C H' a z' ⟨k, r, d.now :: d.future⟩ → Fr H (own a z) H' (own a z') → Q .non H'
def spAgain (C : Addr) : Sp := fun vs H Q _ => ∃ (a : Addr) (z : Z) (d : Desk) (k : Book) (r : List Book), vs = [.ref a] ∧ Lay C H a z d ∧ d.future = k :: r ∧ d.past.length ≤ 20 ∧
  ∀ (H' : Hp) (z' : Z), Lay C H' a z' ⟨k, d.now :: d.past, r⟩ → Fr H (own a z) H' (own a z') → Q .non H'
theorem putF_len (f : Str) (v : V) : ∀ fl : List (Str × V), (putF f v fl).length ≤ fl.length + 1
  | [] => Nat.le_refl _
  | (g, x) :: r => by
    unfold putF
    by_cases c : g = f
    · rw [if_pos c]; exact Nat.le_succ _
    · rw [if_neg c]; exact Nat.succ_le_succ (putF_len f v r)
theorem put_all {fl : List (Str × V)} (h : isObj fl) (g : Nat) (ls lf : Addr) (x : Dx) :
    putF ("later" : Str) (.ref x.ll) (putF ("earlier" : Str) (.ref x.le) (putF ("rule" : Str) .non (putF ("firsts" : Str) (.ref lf) (putF ("sons" : Str) (.ref ls) (putF ("gap" : Str) (.int (g : Int)) fl))))) = flds g ls lf .non x := by
  rcases h with e | ⟨g0, l0, f0, r0, x0, e⟩
  · subst e
    have e1 : putF ("gap" : Str) (V.int (g : Int)) [] = ([("gap", V.int (g : Int))] : List (Str × V)) := rfl
    have e2 : putF ("sons" : Str) (V.ref ls) ([("gap", V.int (g : Int))] : List (Str × V)) = ([("gap", V.int (g : Int)), ("sons", V.ref ls)] : List (Str × V)) := put_past (by decide +kernel)
    have e3 : putF ("firsts" : Str) (V.ref lf) ([("gap", V.int (g : Int)), ("sons", V.ref ls)] : List (Str × V)) = ([("gap", V.int (g : Int)), ("sons", V.ref ls), ("firsts", V.ref lf)] : List (Str × V)) := (put_past (by decide +kernel)).trans (congrArg _ (put_past (by decide +kernel)))
    have e4 : putF ("rule" : Str) V.non ([("gap", V.int (g : Int)), ("sons", V.ref ls), ("firsts", V.ref lf)] : List (Str × V)) = ([("gap", V.int (g : Int)), ("sons", V.ref ls), ("firsts", V.ref lf), ("rule", V.non)] : List (Str × V)) :=
      (put_past (by decide +kernel)).trans (congrArg _ ((put_past (by decide +kernel)).trans (congrArg _ (put_past (by decide +kernel)))))
    have e5 : putF ("earlier" : Str) (V.ref x.le) ([("gap", V.int (g : Int)), ("sons", V.ref ls), ("firsts", V.ref lf), ("rule", V.non)] : List (Str × V)) = ([("gap", V.int (g : Int)), ("sons", V.ref ls), ("firsts", V.ref lf), ("rule", V.non), ("earlier", V.ref x.le)] : List (Str × V)) :=
      (put_past (by decide +kernel)).trans (congrArg _ ((put_past (by decide +kernel)).trans (congrArg _ ((put_past (by decide +kernel)).trans (congrArg _ (put_past (by decide +kernel)))))))
    rw [e1, e2, e3, e4, e5]
    exact (put_past (by decide +kernel)).trans (congrArg _ ((put_past (by decide +kernel)).trans (congrArg _ ((put_past (by decide +kernel)).trans (congrArg _ ((put_past (by decide +kernel)).trans (congrArg _ (put_past (by decide +kernel)))))))))
  · subst e
    rw [put_gap, put_sons, put_firsts, put_rule, put_earlier, put_later]
    rfl
theorem isObj.len {fl : List (Str × V)} (h : isObj fl) : fl.length ≤ 6 := by
  rcases h with e | ⟨g0, l0, f0, r0, x0, e⟩
  · rw [e]; exact Nat.zero_le _
  · rw [e]; exact Nat.le_refl _
/-- no field has a method's name -/
theorem flds_none {m : Str} (g : Nat) (ls lf : Addr) (rv : V) (x : Dx) (h1 : (m == ("gap" : Str)) = false) (h2 : (m == ("sons" : Str)) = false) (h3 : (m == ("firsts" : Str)) = false) (h4 : (m == ("rule" : Str)) = false) (h5 : (m == ("earlier" : Str)) = false) (h6 : (m == ("later" : Str)) = false) :
    (flds g ls lf rv x).lookup m = none :=
  (lk_past h1).trans ((lk_past h2).trans ((lk_past h3).trans ((lk_past h4).trans ((lk_past h5).trans ((lk_past h6).trans rfl)))))
theorem flds_len (g : Nat) (ls lf : Addr) (rv : V) (x : Dx) : (flds g ls lf rv x).length < 1000 := by show 6 < 1000; decide
end Oos
namespace Oos
open PySem PySem.Spec PyProof.Rows L2
open Km497 (Book Desk)
section
variable {P : Program} {w : World} {K : PySem.W.Frag} {mg : Str → Option Value} {base : Heap} {C : Addr}
theorem ok_Descent_begin {f : Addr} {fd : FuncData} (F : Fun K "begin" "Descent.begin" s_Descent_begin f fd) (T : TxtC K C) (c_OLDEST_FATHER : IsI mg "OLDEST_FATHER" (12)) (c_OLDEST_FIRST : IsI mg "OLDEST_FIRST" (20)) :
    FnOk P w K mg base CX0 1 f fd ["self", "gap"] (spBegin C) := by
  refine F.ok sc_Descent_begin (fun vs H Q E h => ?_) (fun cdv A outer s H vs Q E hr h => ?_)
  · obtain ⟨a, dx, g, fl, rfl, _⟩ := h
    rfl
  · obtain ⟨a, dx, g, fl, rfl, ha, io, q⟩ := h
    have len := io.len
    refine ⟨_, (pss_cons (ps_fld (pv 0) (pv 1) rfl)
      (pss_cons (ps_fld (pv 0) (pe_op op_rep (pe_lst (pa_cons pe_int pa_nil)) (pe_op op_add (pe_ci c_OLDEST_FATHER) pe_int)) rfl)
      (pss_cons (ps_fld (pv 0) (pe_op op_rep (pe_lst (pa_cons pe_int pa_nil)) (pe_op op_add (pe_ci c_OLDEST_FIRST) pe_int)) rfl)
      (pss_cons (ps_fld (pv 0) pe_non rfl)
      (pss_cons (ps_fld (pv 0) (pe_lst pa_nil) rfl)
      (pss_one (ps_fld (pv 0) (pe_lst pa_nil) rfl))))))), ?_⟩
    -- gap
    refine ⟨_, rfl, _, rfl, a, C, dx, fl, rfl, ha, T.cl, T.nG, by omega, ?_⟩
    have k1 := Keep.store a H (.ins C dx (putF ("gap" : Str) (.int (g : Int)) fl))
    have a1 : (upd H a (.ins C dx (putF ("gap" : Str) (.int (g : Int)) fl))) a = _ := upd_same
    have l1 := putF_len ("gap" : Str) (.int (g : Int)) fl
    generalize upd H a (.ins C dx (putF ("gap" : Str) (.int (g : Int)) fl)) = H1 at *
    -- sons
    refine ⟨(by show 1 ≤ sizeLine; decide), fun l0 n0 => ⟨_, _, rfl, rfl, l0, _, _, rfl, rfl, upd_same, by decide, by decide, (by show 13 ≤ sizeLine; decide), fun ls ns => ?_⟩⟩
    rw [show (List.replicate ((12 : Int) + 1).toNat [V.int 0]).flatten = nums (List.replicate 13 0) from rfl]
    have k2 := k1.trans ((Keep.of (a := a) (same_upd (o := .lst [.int 0]) n0)).trans (Keep.of (same_upd (o := .lst (nums (List.replicate 13 0))) ns)))
    have a2 : (upd (upd H1 l0 (.lst [.int 0])) ls (.lst (nums (List.replicate 13 0)))) a = _ := (same_upd ns) _ _ ((same_upd n0) _ _ a1)
    have e2 : (upd (upd H1 l0 (.lst [.int 0])) ls (.lst (nums (List.replicate 13 0)))) ls = _ := upd_same
    have f2 : H ls = none := (k1.trans (Keep.of (a := a) (same_upd (o := .lst [.int 0]) n0))).free ((same_upd n0) _ _ a1) ns
    have x2 : ls ≠ a := ne_new ns ((same_upd n0) _ _ a1)
    have l2 := putF_len ("sons" : Str) (.ref ls) (putF ("gap" : Str) (.int (g : Int)) fl)
    refine ⟨_, rfl, a, C, dx, _, rfl, a2, T.cl, T.nS, by omega, ?_⟩
    have k3 := k2.trans (Keep.store a _ (.ins C dx (putF ("sons" : Str) (.ref ls) (putF ("gap" : Str) (.int (g : Int)) fl))))
    have e3 := Keep.store a _ (.ins C dx (putF ("sons" : Str) (.ref ls) (putF ("gap" : Str) (.int (g : Int)) fl))) _ _ e2 x2
    have a3 : (upd (upd (upd H1 l0 (.lst [.int 0])) ls (.lst (nums (List.replicate 13 0)))) a (.ins C dx (putF ("sons" : Str) (.ref ls) (putF ("gap" : Str) (.int (g : Int)) fl)))) a = _ := upd_same
    generalize upd (upd (upd H1 l0 (.lst [.int 0])) ls (.lst (nums (List.replicate 13 0)))) a (.ins C dx (putF ("sons" : Str) (.ref ls) (putF ("gap" : Str) (.int (g : Int)) fl))) = H3 at *
    clear k2 a2 e2
    -- firsts
    refine ⟨(by show 1 ≤ sizeLine; decide), fun l0 n0 => ⟨_, _, rfl, rfl, l0, _, _, rfl, rfl, upd_same, by decide, by decide, (by show 21 ≤ sizeLine; decide), fun lf nf => ?_⟩⟩
    rw [show (List.replicate ((20 : Int) + 1).toNat [V.int 0]).flatten = nums (List.replicate 21 0) from rfl]
    have s4 : Same H3 (upd (upd H3 l0 (.lst [.int 0])) lf (.lst (nums (List.replicate 21 0)))) := (same_upd n0).trans (same_upd nf)
    have f4 : H lf = none := k3.free a3 ((same_upd n0).free nf)
    have x4 : lf ≠ a := ne_new nf ((same_upd n0) _ _ a3)
    have y4 : ls ≠ lf := (ne_new nf ((same_upd n0) _ _ e3)).symm
    have e4 : (upd (upd H3 l0 (.lst [.int 0])) lf (.lst (nums (List.replicate 21 0)))) lf = _ := upd_same
    have l4 := putF_len ("firsts" : Str) (.ref lf) (putF ("sons" : Str) (.ref ls) (putF ("gap" : Str) (.int (g : Int)) fl))
    refine ⟨_, rfl, a, C, dx, _, rfl, s4 _ _ a3, T.cl, T.nF, by omega, ?_⟩
    have k5 := (Keep.of (a := a) s4).trans (Keep.store a _ (.ins C dx (putF ("firsts" : Str) (.ref lf) (putF ("sons" : Str) (.ref ls) (putF ("gap" : Str) (.int (g : Int)) fl)))))
    have e5 := Keep.store a _ (.ins C dx (putF ("firsts" : Str) (.ref lf) (putF ("sons" : Str) (.ref ls) (putF ("gap" : Str) (.int (g : Int)) fl)))) _ _ e4 x4
    have a5 : (upd (upd (upd H3 l0 (.lst [.int 0])) lf (.lst (nums (List.replicate 21 0)))) a (.ins C dx (putF ("firsts" : Str) (.ref lf) (putF ("sons" : Str) (.ref ls) (putF ("gap" : Str) (.int (g : Int)) fl))))) a = _ := upd_same
    generalize upd (upd (upd H3 l0 (.lst [.int 0])) lf (.lst (nums (List.replicate 21 0)))) a (.ins C dx (putF ("firsts" : Str) (.ref lf) (putF ("sons" : Str) (.ref ls) (putF ("gap" : Str) (.int (g : Int)) fl)))) = H5 at *
    have k5' := k3.trans k5
    have e5' := k5 _ _ e3 x2
    -- rule
    have l6 := putF_len ("rule" : Str) .non (putF ("firsts" : Str) (.ref lf) (putF ("sons" : Str) (.ref ls) (putF ("gap" : Str) (.int (g : Int)) fl)))
    refine ⟨_, rfl, a, C, dx, _, rfl, a5, T.cl, T.nR, by omega, ?_⟩
    have k6 := Keep.store a H5 (.ins C dx (putF ("rule" : Str) .non (putF ("firsts" : Str) (.ref lf) (putF ("sons" : Str) (.ref ls) (putF ("gap" : Str) (.int (g : Int)) fl)))))
    have a6 : (upd H5 a (.ins C dx (putF ("rule" : Str) .non (putF ("firsts" : Str) (.ref lf) (putF ("sons" : Str) (.ref ls) (putF ("gap" : Str) (.int (g : Int)) fl)))))) a = _ := upd_same
    generalize upd H5 a (.ins C dx (putF ("rule" : Str) .non (putF ("firsts" : Str) (.ref lf) (putF ("sons" : Str) (.ref ls) (putF ("gap" : Str) (.int (g : Int)) fl))))) = H6 at *
    have k6' := k5'.trans k6
    have e6 := k6 _ _ e5 x4
    have e6' := k6 _ _ e5' x2
    -- earlier
    refine ⟨Nat.zero_le _, fun le ne => ?_⟩
    have s7 : Same H6 (upd H6 le (.lst [])) := same_upd ne
    have f7 : H le = none := k6'.free a6 ne
    have x7 : le ≠ a := ne_new ne a6
    have e7 : (upd H6 le (.lst [])) le = _ := upd_same
    have l7 := putF_len ("earlier" : Str) (.ref le) (putF ("rule" : Str) .non (putF ("firsts" : Str) (.ref lf) (putF ("sons" : Str) (.ref ls) (putF ("gap" : Str) (.int (g : Int)) fl))))
    refine ⟨_, rfl, a, C, dx, _, rfl, s7 _ _ a6, T.cl, T.nE, by omega, ?_⟩
    have k8 := (Keep.of (a := a) s7).trans (Keep.store a _ (.ins C dx (putF ("earlier" : Str) (.ref le) (putF ("rule" : Str) .non (putF ("firsts" : Str) (.ref lf) (putF ("sons" : Str) (.ref ls) (putF ("gap" : Str) (.int (g : Int)) fl)))))))
    have e8 := Keep.store a _ (.ins C dx (putF ("earlier" : Str) (.ref le) (putF ("rule" : Str) .non (putF ("firsts" : Str) (.ref lf) (putF ("sons" : Str) (.ref ls) (putF ("gap" : Str) (.int (g : Int)) fl)))))) _ _ e7 x7
    have a8 : (upd (upd H6 le (.lst [])) a (.ins C dx (putF ("earlier" : Str) (.ref le) (putF ("rule" : Str) .non (putF ("firsts" : Str) (.ref lf) (putF ("sons" : Str) (.ref ls) (putF ("gap" : Str) (.int (g : Int)) fl))))))) a = _ := upd_same
    generalize upd (upd H6 le (.lst [])) a (.ins C dx (putF ("earlier" : Str) (.ref le) (putF ("rule" : Str) .non (putF ("firsts" : Str) (.ref lf) (putF ("sons" : Str) (.ref ls) (putF ("gap" : Str) (.int (g : Int)) fl)))))) = H8 at *
    have k8' := k6'.trans k8
    -- later
    refine ⟨Nat.zero_le _, fun ll nl => ?_⟩
    have s9 : Same H8 (upd H8 ll (.lst [])) := same_upd nl
    have f9 : H ll = none := k8'.free a8 nl
    have x9 : ll ≠ a := ne_new nl a8
    have e9 : (upd H8 ll (.lst [])) ll = _ := upd_same
    refine ⟨_, rfl, a, C, dx, _, rfl, s9 _ _ a8, T.cl, T.nL, by omega, ?_⟩
    have kA := (Keep.of (a := a) s9).trans (Keep.store a _ (.ins C dx (putF ("later" : Str) (.ref ll) (putF ("earlier" : Str) (.ref le) (putF ("rule" : Str) .non (putF ("firsts" : Str) (.ref lf) (putF ("sons" : Str) (.ref ls) (putF ("gap" : Str) (.int (g : Int)) fl))))))))
    have eA := Keep.store a _ (.ins C dx (putF ("later" : Str) (.ref ll) (putF ("earlier" : Str) (.ref le) (putF ("rule" : Str) .non (putF ("firsts" : Str) (.ref lf) (putF ("sons" : Str) (.ref ls) (putF ("gap" : Str) (.int (g : Int)) fl))))))) _ _ e9 x9
    have all := put_all io g ls lf ⟨dx, le, ll⟩
    rw [all] at kA eA ⊢
    have c1 := kA _ _ (k8 _ _ e6' x2) x2
    have c2 := kA _ _ (k8 _ _ e6 x4) x4
    have c3 := kA _ _ e8 x7
    have d1 := (ne_new ne e6').symm
    have d2 := (ne_new nl (k8 _ _ e6' x2)).symm
    have d3 := (ne_new ne e6).symm
    have d4 := (ne_new nl (k8 _ _ e6 x4)).symm
    have d5 := (ne_new nl e8).symm
    refine q _ ⟨⟨dx, le, ll⟩, ls, lf, .non, List.replicate 21 0, [], []⟩ ⟨⟨upd_same, c1, c2, rfl, rfl, rfl⟩, c3, eA, trivial, trivial, y4, d1, d2, d3, d4, d5⟩ (k8'.trans kA) ?_
    rintro b (e | e | e | e | e)
    · exact .inl e
    · exact .inr (by rw [e]; exact f2)
    · exact .inr (by rw [e]; exact f4)
    · exact .inr (by rw [e]; exact f7)
    · exact .inr (by rw [e]; exact f9)
theorem ok_Descent___init__ {f : Addr} {fd : FuncData} (F : Fun K "__init__" "Descent.__init__" s_Descent___init__ f fd) (m_Descent_begin : HasM P w K mg base C "begin" ["self", "gap"] 1 (spBegin C)) :
    FnOk P w K mg base CX0 2 f fd ["self"] (spMake (RP C) C) := by
  refine F.ok sc_Descent___init__ (fun vs H Q E h => ?_) (fun cdv A outer s H vs Q E hr h => ?_)
  · obtain ⟨p, dx, rfl, _⟩ := h
    rfl
  · obtain ⟨p, dx, rfl, hp, q⟩ := h
    refine ⟨_, (pss_one (ps_expr (pe_hasM (pv 0) m_Descent_begin (hr.mono (by decide)) (pa_cons pe_int pa_nil)))), ?_⟩
    refine ⟨_, rfl, p, dx, _, rfl, hp, rfl, p, dx, 0, [], rfl, hp, .inl rfl, fun H' z O k o => ?_⟩
    exact q H' (own p z) ⟨z, _, O, rfl, trivial⟩ k o
theorem ok_Descent_as_it_is {f : Addr} {fd : FuncData} (F : Fun K "as_it_is" "Descent.as_it_is" s_Descent_as_it_is f fd) (T : TxtC K C) (b_tuple : mg "tuple" = none) :
    FnOk P w K mg base CX0 1 f fd ["self"] (spSnap C) := by
  refine F.ok sc_Descent_as_it_is (fun vs H Q E h => ?_) (fun cdv A outer s H vs Q E hr h => ?_)
  · obtain ⟨a, dx, ls, lf, rv, fs, b, rfl, _⟩ := h
    rfl
  · obtain ⟨a, dx, ls, lf, rv, fs, b, rfl, O, q⟩ := h
    refine ⟨_, (pss_one (ps_ret (pe_tup (pa_cons (pe_fld (pv 0) rfl) (pa_cons (pe_callTy call_tuple_of (by rfl) b_tuple (by decide +kernel) (pa_cons (pe_fld (pv 0) rfl) pa_nil)) (pa_cons (pe_callTy call_tuple_of (by rfl) b_tuple (by decide +kernel) (pa_cons (pe_fld (pv 0) rfl) pa_nil)) (pa_cons (pe_fld (pv 0) rfl) pa_nil))))))), ?_⟩
    refine ⟨_, rfl, a, C, dx.d, _, _, rfl, O.o, T.cl, T.nG, flds_gap _ _ _ _ _, ?_⟩
    refine ⟨_, rfl, a, C, dx.d, _, _, rfl, O.o, T.cl, T.nS, flds_sons _ _ _ _ _, ls, _, rfl, .inl ⟨SqL.of O.s, fun t1 n1 => ?_⟩⟩
    have s1 : Same H (upd H t1 (.tup (nums b.sons))) := same_upd n1
    have O1 := O.same s1
    refine ⟨_, rfl, a, C, dx.d, _, _, rfl, O1.o, T.cl, T.nF, flds_firsts _ _ _ _ _, lf, _, rfl, .inl ⟨SqL.of O1.f, fun t2 n2 => ?_⟩⟩
    have s2 : Same (upd H t1 (.tup (nums b.sons))) (upd (upd H t1 (.tup (nums b.sons))) t2 (.tup (nums fs))) := same_upd n2
    have O2 := O1.same s2
    refine ⟨_, rfl, a, C, dx.d, _, _, rfl, O2.o, T.cl, T.nR, flds_rule _ _ _ _ _, (by show 4 ≤ sizeLine; decide), fun t nt => ?_⟩
    have s3 := same_upd (o := .tup [.int (b.gap : Int), .ref t1, .ref t2, rv]) nt
    have O3 := O2.same s3
    exact q _ t ((s1.trans s2).trans s3) ((s1.trans s2).free nt) ⟨t1, t2, rv, fs, upd_same, s3 _ _ (s2 _ _ upd_same), s3 _ _ upd_same, O.fl, O.fe, O3.r⟩
theorem ok_Descent_put_back {f : Addr} {fd : FuncData} (F : Fun K "put_back" "Descent.put_back" s_Descent_put_back f fd) (T : TxtC K C) (b_list : mg "list" = none) :
    FnOk P w K mg base CX0 1 f fd ["self", "kept"] (spPut C) := by
  refine F.ok sc_Descent_put_back (fun vs H Q E h => ?_) (fun cdv A outer s H vs Q E hr h => ?_)
  · obtain ⟨a, t, g, dx, ls, lf, rv, b, rfl, _⟩ := h
    rfl
  · obtain ⟨a, t, g, dx, ls, lf, rv, b, rfl, ha, S, q⟩ := h
    refine ⟨_, (pss_cons (ps_fld (pv 0) (pe_ix ix_tup (pv 1) pe_int (fun _ _ => rfl)) rfl)
      (pss_cons (ps_fld (pv 0) (pe_callTy call_list_of (by rfl) b_list (by decide +kernel) (pa_cons (pe_ix ix_tup (pv 1) pe_int (fun _ _ => rfl)) pa_nil)) rfl)
      (pss_cons (ps_fld (pv 0) (pe_callTy call_list_of (by rfl) b_list (by decide +kernel) (pa_cons (pe_ix ix_tup (pv 1) pe_int (fun _ _ => rfl)) pa_nil)) rfl)
      (pss_one (ps_fld (pv 0) (pe_ix ix_tup (pv 1) pe_int (fun _ _ => rfl)) rfl))))), ?_⟩
    obtain ⟨t1, t2, rv', fs', h1, h2, h3, h4, h5, h6⟩ := S.ex
    -- gap
    refine ⟨_, rfl, t, _, 0, _, rfl, rfl, SqT.of h1, atI_nat (j := 0) rfl, _, rfl, a, C, dx.d, _, rfl, ha, T.cl, T.nG, flds_len _ _ _ _ _, ?_⟩
    rw [put_gap]
    have k1 := Keep.store a H (.ins C dx.d (flds b.gap ls lf rv dx))
    have a1 : (upd H a (.ins C dx.d (flds b.gap ls lf rv dx))) a = _ := upd_same
    have ts1 := k1.ts ha
    generalize upd H a (.ins C dx.d (flds b.gap ls lf rv dx)) = H1 at *
    -- sons
    refine ⟨_, rfl, t, _, 1, _, rfl, rfl, SqT.of (ts1 _ _ h1), atI_nat (j := 1) rfl, t1, _, rfl, .inr (SqT.of (ts1 _ _ h2)), fun ls' ns => ?_⟩
    have s2 : Same H1 (upd H1 ls' (.lst (nums b.sons))) := same_upd ns
    have f2 : H ls' = none := k1.free a1 ns
    have x2 : ls' ≠ a := ne_new ns a1
    refine ⟨_, rfl, a, C, dx.d, _, rfl, s2 _ _ a1, T.cl, T.nS, flds_len _ _ _ _ _, ?_⟩
    rw [put_sons]
    have k2 := (Keep.of (a := a) s2).trans (Keep.store a _ (.ins C dx.d (flds b.gap ls' lf rv dx)))
    have e2 := Keep.store a (upd H1 ls' (.lst (nums b.sons))) (.ins C dx.d (flds b.gap ls' lf rv dx)) _ _ upd_same x2
    have a2 : (upd (upd H1 ls' (.lst (nums b.sons))) a (.ins C dx.d (flds b.gap ls' lf rv dx))) a = _ := upd_same
    generalize upd (upd H1 ls' (.lst (nums b.sons))) a (.ins C dx.d (flds b.gap ls' lf rv dx)) = H2 at *
    have k2' := k1.trans k2
    have ts2 := k2'.ts ha
    -- firsts
    refine ⟨_, rfl, t, _, 2, _, rfl, rfl, SqT.of (ts2 _ _ h1), atI_nat (j := 2) rfl, t2, _, rfl, .inr (SqT.of (ts2 _ _ h3)), fun lf' nf => ?_⟩
    have s3 : Same H2 (upd H2 lf' (.lst (nums fs'))) := same_upd nf
    have f3 : H lf' = none := k2'.free a2 nf
    have x3 : lf' ≠ a := ne_new nf a2
    have y3 : ls' ≠ lf' := (ne_new nf e2).symm
    refine ⟨_, rfl, a, C, dx.d, _, rfl, s3 _ _ a2, T.cl, T.nF, flds_len _ _ _ _ _, ?_⟩
    rw [put_firsts]
    have k3 := (Keep.of (a := a) s3).trans (Keep.store a _ (.ins C dx.d (flds b.gap ls' lf' rv dx)))
    have e3 := Keep.store a (upd H2 lf' (.lst (nums fs'))) (.ins C dx.d (flds b.gap ls' lf' rv dx)) _ _ upd_same x3
    have a3 : (upd (upd H2 lf' (.lst (nums fs'))) a (.ins C dx.d (flds b.gap ls' lf' rv dx))) a = _ := upd_same
    generalize upd (upd H2 lf' (.lst (nums fs'))) a (.ins C dx.d (flds b.gap ls' lf' rv dx)) = H3 at *
    have k3' := k2'.trans k3
    have ts3 := k3'.ts ha
    -- rule
    refine ⟨_, rfl, t, _, 3, _, rfl, rfl, SqT.of (ts3 _ _ h1), atI_nat (j := 3) rfl, _, rfl, a, C, dx.d, _, rfl, a3, T.cl, T.nR, flds_len _ _ _ _ _, ?_⟩
    rw [put_rule]
    have k4 := Keep.store a H3 (.ins C dx.d (flds b.gap ls' lf' rv' dx))
    have k4' := k3'.trans k4
    exact q _ ls' lf' rv' fs' ⟨upd_same, k4 _ _ (k3 _ _ e2 x2) x2, k4 _ _ e3 x3, h4, h5, h6.ts (k4'.ts ha)⟩ k4' f2 f3 y3
end
end Oos
namespace Oos
open PySem PySem.Spec PyProof.Rows L2
open Km497 (Book Desk)
theorem marked {C : Addr} {H H1 H3 : Hp} {a : Addr} {z : Z} {d : Desk} {t ll : Addr} {es' : List Addr} (O : Lay C H a z d) (s1 : Same H H1) (S1 : Snap H1 t d.now) (he : es'.reverse = (t :: z.es.reverse).take 20)
    (k3 : Keep z.x.le H1 H3) (e3 : H3 z.x.le = some (.lst (es'.map V.ref))) (lv3 : ∀ b, H3 b = none → H1 b = none) (nl : H3 ll = none) :
    Lay C (upd (upd H3 ll (.lst [])) a (.ins C z.x.d (flds d.now.gap z.ls z.lf z.rv ⟨z.x.d, z.x.le, ll⟩))) a ⟨⟨z.x.d, z.x.le, ll⟩, z.ls, z.lf, z.rv, z.fs, es', []⟩ ⟨d.now, (d.now :: d.past).take 20, []⟩ ∧
    Fr H (own a z) (upd (upd H3 ll (.lst [])) a (.ins C z.x.d (flds d.now.gap z.ls z.lf z.rv ⟨z.x.d, z.x.le, ll⟩))) (own a ⟨⟨z.x.d, z.x.le, ll⟩, z.ls, z.lf, z.rv, z.fs, es', []⟩) := by
  have O1 := O.same s1
  have nae : a ≠ z.x.le := ne_of O1.ob.o O1.e (by intro z; cases z)
  have nas : z.ls ≠ a := ne_of O1.ob.s O1.ob.o (by intro z; cases z)
  have naf : z.lf ≠ a := ne_of O1.ob.f O1.ob.o (by intro z; cases z)
  have a3 := k3 _ _ O1.ob.o nae
  have c1 := k3 _ _ O1.ob.s O1.n2
  have c2 := k3 _ _ O1.ob.f O1.n4
  have k4 : Keep a H3 (upd (upd H3 ll (.lst [])) a (.ins C z.x.d (flds d.now.gap z.ls z.lf z.rv ⟨z.x.d, z.x.le, ll⟩))) := (Keep.of (same_upd nl)).trans (Keep.store a _ _)
  have xa : ll ≠ a := ne_new nl a3
  have t3 : TS H1 H3 := fun b xs e => k3 _ _ e (ne_of e O1.e (by intro z; cases z))
  have ts := t3.trans (k4.ts a3)
  have el := Keep.store a (upd H3 ll (.lst [])) (.ins C z.x.d (flds d.now.gap z.ls z.lf z.rv ⟨z.x.d, z.x.le, ll⟩)) _ _ upd_same xa
  refine ⟨⟨⟨upd_same, k4 _ _ c1 nas, k4 _ _ c2 naf, O.ob.fl, O.ob.fe, O1.ob.r.ts ts⟩, k4 _ _ e3 nae.symm, el, ?_, trivial, O.n1, O.n2, (ne_new nl c1).symm, O.n4, (ne_new nl c2).symm, (ne_new nl e3).symm⟩, ?_, ?_, ?_⟩
  · show Kept _ es'.reverse _
    rw [he]
    exact Kept.take 20 (⟨S1.ts ts, O1.pe.ts ts⟩ : Kept _ (t :: z.es.reverse) (d.now :: d.past))
  · intro b o e n
    exact k4 _ _ (k3 _ _ (s1 _ _ e) fun w => n (.inr (.inr (.inr (.inl w))))) fun w => n (.inl w)
  · rintro b (e | e | e | e | e)
    · exact .inl (.inl e)
    · exact .inl (.inr (.inl e))
    · exact .inl (.inr (.inr (.inl e)))
    · exact .inl (.inr (.inr (.inr (.inl e))))
    · refine .inr ?_
      rw [e]
      exact s1.free (lv3 _ nl)
  · intro b e
    by_cases c : b = a
    · rw [c, upd_same] at e; cases e
    rw [upd_ne c] at e
    exact s1.free (lv3 _ ((same_upd nl).free e))
theorem moved {C : Addr} {H H1 H3 H4 : Hp} {a : Addr} {z : Z} {d : Desk} {ls' lf' : Addr} {rv' : V} {fs' : List Nat} {es' ts' : List Addr} {b : Book} {ps fu : List Book} (O : Lay C H a z d) (s1 : Same H H1)
    (k3 : ∀ b o, H1 b = some o → b ≠ z.x.le → b ≠ z.x.ll → H3 b = some o) (e3 : H3 z.x.le = some (.lst (es'.map V.ref))) (l3 : H3 z.x.ll = some (.lst (ts'.map V.ref))) (lv3 : ∀ b, H3 b = none → H1 b = none)
    (pe : Kept H1 es'.reverse ps) (pl : Kept H1 ts'.reverse fu) (O4 : Obj4 C H4 a z.x ls' lf' rv' fs' b) (k4 : Keep a H3 H4) (n1 : H3 ls' = none) (n2 : H3 lf' = none) (n3 : ls' ≠ lf') :
    Lay C H4 a ⟨z.x, ls', lf', rv', fs', es', ts'⟩ ⟨b, ps, fu⟩ ∧ Fr H (own a z) H4 (own a ⟨z.x, ls', lf', rv', fs', es', ts'⟩) := by
  have O1 := O.same s1
  have nae : a ≠ z.x.le := ne_of O1.ob.o O1.e (by intro z; cases z)
  have nal : a ≠ z.x.ll := ne_of O1.ob.o O1.l (by intro z; cases z)
  have a3 := k3 _ _ O1.ob.o nae nal
  have t3 : TS H1 H3 := fun b xs e => k3 _ _ e (ne_of e O1.e (by intro z; cases z)) (ne_of e O1.l (by intro z; cases z))
  have ts := t3.trans (k4.ts a3)
  refine ⟨⟨O4, k4 _ _ e3 nae.symm, k4 _ _ l3 nal.symm, pe.ts ts, pl.ts ts, n3, ne_new n1 e3, ne_new n1 l3, ne_new n2 e3, ne_new n2 l3, O.n6⟩, ?_, ?_, ?_⟩
  · intro b o e n
    exact k4 _ _ (k3 _ _ (s1 _ _ e) (fun w => n (.inr (.inr (.inr (.inl w))))) (fun w => n (.inr (.inr (.inr (.inr w)))))) fun w => n (.inl w)
  · rintro b (e | e | e | e | e)
    · exact .inl (.inl e)
    · exact .inr (by rw [e]; exact s1.free (lv3 _ n1))
    · exact .inr (by rw [e]; exact s1.free (lv3 _ n2))
    · exact .inl (.inr (.inr (.inr (.inl e))))
    · exact .inl (.inr (.inr (.inr (.inr e))))
  · intro b e
    refine s1.free (lv3 _ ?_)
    cases c : H3 b with
    | none => rfl
    | some o =>
      rw [k4 _ _ c (ne_new e O4.o)] at e
      cases e
/-- a list's last, told from the other end -/
theorem lastOf {H : Hp} {l : List Addr} {k : Book} {r : List Book} (h : Kept H l.reverse (k :: r)) : ∃ l0 u, l = l0 ++ [u] ∧ Snap H u k ∧ Kept H l0.reverse r := by
  cases e : l.reverse with
  | nil => rw [e] at h; exact h.elim
  | cons u m =>
    rw [e] at h
    refine ⟨m.reverse, u, ?_, h.1, by rw [List.reverse_reverse]; exact h.2⟩
    rw [← List.reverse_reverse l, e, List.reverse_cons]
theorem refs_last (l0 : List Addr) (u : Addr) : ((l0 ++ [u]).map V.ref)[((l0 ++ [u]).map V.ref).length - 1]? = some (V.ref u) := by
  rw [List.length_map, List.length_append, List.getElem?_map]
  simp
theorem refs_front (l0 : List Addr) (u : Addr) : ((l0 ++ [u]).map V.ref).dropLast = l0.map V.ref := by
  rw [List.map_append]
  exact List.dropLast_concat
section
variable {P : Program} {w : World} {K : PySem.W.Frag} {mg : Str → Option Value} {base : Heap} {C : Addr}
theorem ok_Descent_mark_change {f : Addr} {fd : FuncData} (F : Fun K "mark_change" "Descent.mark_change" s_Descent_mark_change f fd) (T : TxtC K C) (m_Descent_as_it_is : HasM P w K mg base C "as_it_is" ["self"] 1 (spSnap C)) (b_len : mg "len" = none) (c_MOST_TAKEN_BACK : IsI mg "MOST_TAKEN_BACK" (20)) :
    FnOk P w K mg base CX0 2 f fd ["self"] (spMark C) := by
  refine F.ok sc_Descent_mark_change (fun vs H Q E h => ?_) (fun cdv A outer s H vs Q E hr h => ?_)
  · obtain ⟨a, z, d, rfl, _⟩ := h
    rfl
  · obtain ⟨a, z, d, rfl, O, hp, q⟩ := h
    have hl : z.es.length = d.past.length := by rw [← O.pe.len, List.length_reverse]
    refine ⟨_, (pss_cons (ps_expr (pe_bm PySem.F.plainAttrs_list PySem.F.slot_list_append PySem.F.type_list_append mt_append (pe_fld (pv 0) rfl) (pa_cons (pe_hasM0 (pv 0) m_Descent_as_it_is (hr.mono (by decide))) pa_nil)))
      (pss_cons (ps_if (pt_cmpR op_gt (pe_callB call_len_seq (by rfl) b_len PySem.boot_len (pa_cons (pe_fld (pv 0) rfl) pa_nil)) (pe_ci c_MOST_TAKEN_BACK) (nomark _)) (pss_one (ps_expr (pe_bm PySem.F.plainAttrs_list PySem.F.slot_list_pop PySem.F.type_list_pop mt_popAt (pe_fld (pv 0) rfl) (pa_cons pe_int pa_nil)))) pss_nil)
      (pss_one (ps_fld (pv 0) (pe_lst pa_nil) rfl)))), ?_⟩
    refine ⟨_, rfl, a, C, z.x.d, _, _, rfl, O.ob.o, T.cl, T.nE, flds_earlier _ _ _ _ _, .inl ⟨rfl, _, SqL.of O.e⟩, _, rfl, a, z.x.d, _, rfl, O.ob.o, flds_none _ _ _ _ _ (by decide +kernel) (by decide +kernel) (by decide +kernel) (by decide +kernel) (by decide +kernel) (by decide +kernel), a, z.x, z.ls, z.lf, z.rv, z.fs, d.now, rfl, O.ob, fun H1 t s1 n1 S1 => ?_⟩
    have O1 := O.same s1
    refine ⟨z.x.le, _, _, rfl, rfl, O1.e, (by rw [List.length_map, sizeLine_eq]; omega), ?_⟩
    have nae : a ≠ z.x.le := ne_of O1.ob.o O1.e (by intro z; cases z)
    have k2 := Keep.store z.x.le H1 (.lst (z.es.map V.ref ++ [.ref t]))
    have e2 : (upd H1 z.x.le (.lst (z.es.map V.ref ++ [.ref t]))) z.x.le = _ := upd_same
    have lv2 : ∀ b, (upd H1 z.x.le (.lst (z.es.map V.ref ++ [.ref t]))) b = none → H1 b = none := fun b e => by
      by_cases c : b = z.x.le
      · rw [c, upd_same] at e; cases e
      · rw [upd_ne c] at e; exact e
    generalize upd H1 z.x.le (.lst (z.es.map V.ref ++ [.ref t])) = H2 at *
    have a2 := k2 _ _ O1.ob.o nae
    refine ⟨_, rfl, a, C, z.x.d, _, _, rfl, a2, T.cl, T.nE, flds_earlier _ _ _ _ _, z.x.le, _, rfl, .inl (SqL.of e2), _, _, rfl, rfl, _, rfl, ?_⟩
    refine ite2 (fun c => ?_) (fun c => ?_)
    · have c : (20 : Int) < ((z.es.map V.ref ++ [V.ref t]).length : Nat) := of_decide_eq_true c
      rw [List.length_append, List.length_map] at c
      have c : 20 < z.es.length + 1 := by exact Int.ofNat_lt.mp c
      have el : z.es.length = 20 := by omega
      obtain ⟨u, us, eu⟩ : ∃ u us, z.es = u :: us := by
        cases e : z.es with
        | nil => rw [e] at el; cases el
        | cons u us => exact ⟨u, us, rfl⟩
      rw [eu] at e2
      have ix0 : seqIndex? 0 ((u :: us).map V.ref ++ [V.ref t]).length = some 0 := by
        refine (ixN_seq (j := 0) ?_).1
        unfold ixN
        rw [if_pos (by decide), if_pos (by rw [List.length_append]; simp; omega)]; rfl
      refine ⟨_, rfl, a, C, z.x.d, _, _, rfl, a2, T.cl, T.nE, flds_earlier _ _ _ _ _, .inl ⟨rfl, _, SqL.of e2⟩, z.x.le, _, 0, 0, .ref u, rfl, rfl, e2, by decide, by decide, ix0, rfl, ?_⟩
      have e3 : (upd H2 z.x.le (.lst (((u :: us).map V.ref ++ [V.ref t]).eraseIdx 0))) z.x.le = some (.lst ((us ++ [t]).map V.ref)) := by
        rw [upd_same, List.map_append]; rfl
      have k3 := k2.trans (Keep.store z.x.le H2 (.lst (((u :: us).map V.ref ++ [V.ref t]).eraseIdx 0)))
      have lv3 : ∀ b, (upd H2 z.x.le (.lst (((u :: us).map V.ref ++ [V.ref t]).eraseIdx 0))) b = none → H1 b = none := fun b e => by
        by_cases c : b = z.x.le
        · rw [c, upd_same] at e; cases e
        · rw [upd_ne c] at e; exact lv2 _ e
      generalize upd H2 z.x.le (.lst (((u :: us).map V.ref ++ [V.ref t]).eraseIdx 0)) = H3 at *
      refine ⟨Nat.zero_le _, fun ll nl => ?_⟩
      have he : (us ++ [t]).reverse = (t :: z.es.reverse).take 20 := by
        rw [eu] at el ⊢
        rw [List.reverse_append, show (u :: us).reverse = us.reverse ++ [u] from List.reverse_cons]
        show t :: us.reverse = t :: (us.reverse ++ [u]).take 19
        rw [List.take_append_of_le_length (by rw [List.length_reverse]; simp at el; omega), List.take_of_length_le (by rw [List.length_reverse]; simp at el; omega)]
      obtain ⟨R1, R2⟩ := marked O s1 S1 he k3 e3 lv3 nl
      refine ⟨_, rfl, a, C, z.x.d, _, rfl, (same_upd nl) _ _ (k3 _ _ O1.ob.o nae), T.cl, T.nL, flds_len _ _ _ _ _, ?_⟩
      rw [put_later]
      exact q _ _ R1 R2
    · have c : ¬ (20 : Int) < ((z.es.map V.ref ++ [V.ref t]).length : Nat) := fun w => c (decide_eq_true w)
      rw [List.length_append, List.length_map] at c
      have c : ¬ 20 < z.es.length + 1 := fun w => c (Int.ofNat_lt.mpr w)
      have e3 : H2 z.x.le = some (.lst ((z.es ++ [t]).map V.ref)) := by rw [e2, List.map_append]; rfl
      refine ⟨Nat.zero_le _, fun ll nl => ?_⟩
      have he : (z.es ++ [t]).reverse = (t :: z.es.reverse).take 20 := by
        rw [List.reverse_append, List.take_of_length_le (by rw [List.length_cons, List.length_reverse]; omega)]; rfl
      obtain ⟨R1, R2⟩ := marked O s1 S1 he k2 e3 lv2 nl
      refine ⟨_, rfl, a, C, z.x.d, _, rfl, (same_upd nl) _ _ a2, T.cl, T.nL, flds_len _ _ _ _ _, ?_⟩
      rw [put_later]
      exact q _ _ R1 R2
theorem ok_Descent_take_back {f : Addr} {fd : FuncData} (F : Fun K "take_back" "Descent.take_back" s_Descent_take_back f fd) (T : TxtC K C) (m_Descent_as_it_is : HasM P w K mg base C "as_it_is" ["self"] 1 (spSnap C)) (m_Descent_put_back : HasM P w K mg base C "put_back" ["self", "kept"] 1 (spPut C)) :
    FnOk P w K mg base CX0 2 f fd ["self"] (spTake C) := by
  refine F.ok sc_Descent_take_back (fun vs H Q E h => ?_) (fun cdv A outer s H vs Q E hr h => ?_)
  · obtain ⟨a, z, d, k, r, rfl, _⟩ := h
    rfl
  · obtain ⟨a, z, d, k, r, rfl, O, hp, hl, q⟩ := h
    have hl' : z.ts.length = d.future.length := by rw [← O.pl.len, List.length_reverse]
    refine ⟨_, (pss_cons (ps_expr (pe_bm PySem.F.plainAttrs_list PySem.F.slot_list_append PySem.F.type_list_append mt_append (pe_fld (pv 0) rfl) (pa_cons (pe_hasM0 (pv 0) m_Descent_as_it_is (hr.mono (by decide))) pa_nil)))
      (pss_one (ps_expr (pe_hasM (pv 0) m_Descent_put_back (hr.mono (by decide)) (pa_cons (pe_bm0 PySem.F.plainAttrs_list PySem.F.slot_list_pop PySem.F.type_list_pop mt_pop (pe_fld (pv 0) rfl)) pa_nil))))), ?_⟩
    refine ⟨_, rfl, a, C, z.x.d, _, _, rfl, O.ob.o, T.cl, T.nL, flds_later _ _ _ _ _, .inl ⟨rfl, _, SqL.of O.l⟩, _, rfl, a, z.x.d, _, rfl, O.ob.o, flds_none _ _ _ _ _ (by decide +kernel) (by decide +kernel) (by decide +kernel) (by decide +kernel) (by decide +kernel) (by decide +kernel), a, z.x, z.ls, z.lf, z.rv, z.fs, d.now, rfl, O.ob, fun H1 t s1 n1 S1 => ?_⟩
    have O1 := O.same s1
    refine ⟨z.x.ll, _, _, rfl, rfl, O1.l, (by rw [List.length_map, sizeLine_eq]; omega), ?_⟩
    have pe1 := O1.pe
    rw [hp] at pe1
    obtain ⟨l0, u, eu, Su, Ke⟩ := lastOf pe1
    have nae : a ≠ z.x.le := ne_of O1.ob.o O1.e (by intro z; cases z)
    have nal : a ≠ z.x.ll := ne_of O1.ob.o O1.l (by intro z; cases z)
    have e1 := O1.e
    rw [eu] at e1
    have k2 := Keep.store z.x.ll H1 (.lst (z.ts.map V.ref ++ [.ref t]))
    have l2 : (upd H1 z.x.ll (.lst (z.ts.map V.ref ++ [.ref t]))) z.x.ll = some (.lst ((z.ts ++ [t]).map V.ref)) := by rw [upd_same, List.map_append]; rfl
    have lv2 : ∀ b, (upd H1 z.x.ll (.lst (z.ts.map V.ref ++ [.ref t]))) b = none → H1 b = none := fun b e => by
      by_cases c : b = z.x.ll
      · rw [c, upd_same] at e; cases e
      · rw [upd_ne c] at e; exact e
    generalize upd H1 z.x.ll (.lst (z.ts.map V.ref ++ [.ref t])) = H2 at *
    have e2 := k2 _ _ e1 O.n6
    have a2 := k2 _ _ O1.ob.o nal
    refine ⟨_, rfl, a, z.x.d, _, rfl, a2, flds_none _ _ _ _ _ (by decide +kernel) (by decide +kernel) (by decide +kernel) (by decide +kernel) (by decide +kernel) (by decide +kernel), _, rfl, a, C, z.x.d, _, _, rfl, a2, T.cl, T.nE, flds_earlier _ _ _ _ _, .inl ⟨rfl, _, SqL.of e2⟩, z.x.le, _, _, rfl, rfl, e2, refs_last l0 u, ?_⟩
    rw [refs_front]
    have k3 : ∀ b o, H1 b = some o → b ≠ z.x.le → b ≠ z.x.ll → (upd H2 z.x.le (.lst (l0.map V.ref))) b = some o := fun b o e n1 n2 => by
      rw [upd_ne n1]; exact k2 _ _ e n2
    have e3 : (upd H2 z.x.le (.lst (l0.map V.ref))) z.x.le = _ := upd_same
    have l3 : (upd H2 z.x.le (.lst (l0.map V.ref))) z.x.ll = _ := (upd_ne O.n6.symm).trans l2
    have lv3 : ∀ b, (upd H2 z.x.le (.lst (l0.map V.ref))) b = none → H1 b = none := fun b e => by
      by_cases c : b = z.x.le
      · rw [c, upd_same] at e; cases e
      · rw [upd_ne c] at e; exact lv2 _ e
    have t3 : TS H1 (upd H2 z.x.le (.lst (l0.map V.ref))) := fun b xs e => k3 _ _ e (ne_of e O1.e (by intro z; cases z)) (ne_of e O1.l (by intro z; cases z))
    generalize upd H2 z.x.le (.lst (l0.map V.ref)) = H3 at *
    have a3 := k3 _ _ O1.ob.o nae nal
    refine ⟨a, u, _, z.x, z.ls, z.lf, z.rv, k, rfl, a3, Su.ts t3, fun H4 ls' lf' rv' fs' O4 k4 m1 m2 m3 => ?_⟩
    obtain ⟨R1, R2⟩ := moved (ps := r) (fu := d.now :: d.future) O s1 k3 e3 l3 lv3 Ke (by rw [List.reverse_append]; exact ⟨S1, O1.pl⟩) O4 k4 m1 m2 m3
    exact q _ _ R1 R2
theorem ok_Descent_do_again {f : Addr} {fd : FuncData} (F : Fun K "do_again" "Descent.do_again" s_Descent_do_again f fd) (T : TxtC K C) (m_Descent_as_it_is : HasM P w K mg base C "as_it_is" ["self"] 1 (spSnap C)) (m_Descent_put_back : HasM P w K mg base C "put_back" ["self", "kept"] 1 (spPut C)) :
    FnOk P w K mg base CX0 2 f fd ["self"] (spAgain C) := by
  refine F.ok sc_Descent_do_again (fun vs H Q E h => ?_) (fun cdv A outer s H vs Q E hr h => ?_)
  · obtain ⟨a, z, d, k, r, rfl, _⟩ := h
    rfl
  · obtain ⟨a, z, d, k, r, rfl, O, hp, hl, q⟩ := h
    have hl' : z.es.length = d.past.length := by rw [← O.pe.len, List.length_reverse]
    refine ⟨_, (pss_cons (ps_expr (pe_bm PySem.F.plainAttrs_list PySem.F.slot_list_append PySem.F.type_list_append mt_append (pe_fld (pv 0) rfl) (pa_cons (pe_hasM0 (pv 0) m_Descent_as_it_is (hr.mono (by decide))) pa_nil)))
      (pss_one (ps_expr (pe_hasM (pv 0) m_Descent_put_back (hr.mono (by decide)) (pa_cons (pe_bm0 PySem.F.plainAttrs_list PySem.F.slot_list_pop PySem.F.type_list_pop mt_pop (pe_fld (pv 0) rfl)) pa_nil))))), ?_⟩
    refine ⟨_, rfl, a, C, z.x.d, _, _, rfl, O.ob.o, T.cl, T.nE, flds_earlier _ _ _ _ _, .inl ⟨rfl, _, SqL.of O.e⟩, _, rfl, a, z.x.d, _, rfl, O.ob.o, flds_none _ _ _ _ _ (by decide +kernel) (by decide +kernel) (by decide +kernel) (by decide +kernel) (by decide +kernel) (by decide +kernel), a, z.x, z.ls, z.lf, z.rv, z.fs, d.now, rfl, O.ob, fun H1 t s1 n1 S1 => ?_⟩
    have O1 := O.same s1
    refine ⟨z.x.le, _, _, rfl, rfl, O1.e, (by rw [List.length_map, sizeLine_eq]; omega), ?_⟩
    have pl1 := O1.pl
    rw [hp] at pl1
    obtain ⟨l0, u, eu, Su, Ke⟩ := lastOf pl1
    have nae : a ≠ z.x.le := ne_of O1.ob.o O1.e (by intro z; cases z)
    have nal : a ≠ z.x.ll := ne_of O1.ob.o O1.l (by intro z; cases z)
    have l1 := O1.l
    rw [eu] at l1
    have k2 := Keep.store z.x.le H1 (.lst (z.es.map V.ref ++ [.ref t]))
    have e2 : (upd H1 z.x.le (.lst (z.es.map V.ref ++ [.ref t]))) z.x.le = some (.lst ((z.es ++ [t]).map V.ref)) := by rw [upd_same, List.map_append]; rfl
    have lv2 : ∀ b, (upd H1 z.x.le (.lst (z.es.map V.ref ++ [.ref t]))) b = none → H1 b = none := fun b e => by
      by_cases c : b = z.x.le
      · rw [c, upd_same] at e; cases e
      · rw [upd_ne c] at e; exact e
    generalize upd H1 z.x.le (.lst (z.es.map V.ref ++ [.ref t])) = H2 at *
    have l2 := k2 _ _ l1 O.n6.symm
    have a2 := k2 _ _ O1.ob.o nae
    refine ⟨_, rfl, a, z.x.d, _, rfl, a2, flds_none _ _ _ _ _ (by decide +kernel) (by decide +kernel) (by decide +kernel) (by decide +kernel) (by decide +kernel) (by decide +kernel), _, rfl, a, C, z.x.d, _, _, rfl, a2, T.cl, T.nL, flds_later _ _ _ _ _, .inl ⟨rfl, _, SqL.of l2⟩, z.x.ll, _, _, rfl, rfl, l2, refs_last l0 u, ?_⟩
    rw [refs_front]
    have k3 : ∀ b o, H1 b = some o → b ≠ z.x.le → b ≠ z.x.ll → (upd H2 z.x.ll (.lst (l0.map V.ref))) b = some o := fun b o e n1 n2 => by
      rw [upd_ne n2]; exact k2 _ _ e n1
    have l3 : (upd H2 z.x.ll (.lst (l0.map V.ref))) z.x.ll = _ := upd_same
    have e3 : (upd H2 z.x.ll (.lst (l0.map V.ref))) z.x.le = _ := (upd_ne O.n6).trans e2
    have lv3 : ∀ b, (upd H2 z.x.ll (.lst (l0.map V.ref))) b = none → H1 b = none := fun b e => by
      by_cases c : b = z.x.ll
      · rw [c, upd_same] at e; cases e
      · rw [upd_ne c] at e; exact lv2 _ e
    have t3 : TS H1 (upd H2 z.x.ll (.lst (l0.map V.ref))) := fun b xs e => k3 _ _ e (ne_of e O1.e (by intro z; cases z)) (ne_of e O1.l (by intro z; cases z))
    generalize upd H2 z.x.ll (.lst (l0.map V.ref)) = H3 at *
    have a3 := k3 _ _ O1.ob.o nae nal
    refine ⟨a, u, _, z.x, z.ls, z.lf, z.rv, k, rfl, a3, Su.ts t3, fun H4 ls' lf' rv' fs' O4 k4 m1 m2 m3 => ?_⟩
    obtain ⟨R1, R2⟩ := moved (ps := d.now :: d.past) (fu := r) O s1 k3 e3 l3 lv3 (by rw [List.reverse_append]; exact ⟨S1, O1.pe⟩) Ke O4 k4 m1 m2 m3
    exact q _ _ R1 R2
end
end Oos
namespace Oos
open PySem PySem.Spec PyProof.Rows L2
open Km497 (Book Desk)
/-! ### a call's end -/
theorem sd {d : Desk} (W : WfD d) : SD (some d) d := ⟨rfl, W⟩
theorem firstRow_inj {f g : List Nat} (h1 : f.length = 21) (h2 : g.length = 21) (h : firstRow f = firstRow g) : f = g := by
  unfold firstRow at h
  have a := List.append_inj_left h (by simp [h1, h2])
  exact List.append_inj_right a rfl
def Goes (C : Addr) (H : Hp) (a : Addr) (F : Addr → Prop) (r : S0 × List Int) (Q : VK) : Prop :=
  ∀ (H' : Hp) (p : Addr) (F' : Addr → Prop), (RP C).St H' a r.1 F' → (∀ b o, H b = some o → ¬ F b → H' b = some o) → (∀ b, F' b → F b ∨ H b = none) → ¬ F' p → H p = none → H' p = some (.lst (r.2.map V.int)) → Q (.ref p) H'
theorem Goes.done {C : Addr} {H H1 : Hp} {a : Addr} {F : Addr → Prop} {r : S0 × List Int} {Q : VK} (q : Goes C H a F r Q) {s' : S0} {l : List Int} (hr : r = (s', l)) {z' : Z} {d' : Desk} (O : Lay C H1 a z' d') (hs : SD s' d') (fr : Fr H F H1 (own a z')) {vs : List V} (e : vs = l.map V.int) :
    ∀ p, H1 p = none → Q (.ref p) (upd H1 p (.lst vs)) := by
  intro p np
  subst hr
  refine q _ p (own a z') ⟨z', d', O.same (same_upd np), rfl, hs⟩ (fun b o h1 h2 => (same_upd np) _ _ (fr.fr b o h1 h2)) fr.fo (O.notOwn np) (fr.lv _ np) ?_
  rw [upd_same, e]
/-- nothing has changed -/
theorem Goes.still {C : Addr} {H H1 : Hp} {a : Addr} {z : Z} {d : Desk} {s : S0} {r : S0 × List Int} {Q : VK} (q : Goes C H a (own a z) r Q) (O : Lay C H a z d) (hs : SD s d) (sm : Same H H1) {l : List Int} (hr : r = (s, l)) {vs : List V} (e : vs = l.map V.int) :
    ∀ p, H1 p = none → Q (.ref p) (upd H1 p (.lst vs)) :=
  q.done hr (O.same sm) hs (Fr.same sm) e
theorem start_bad (s : S0) {n : Nat} (c : n = 0 ∨ 10 < n) : stepC s (mkCall 0 [n]) = (s, [-22]) := by
  have e : ∀ d : Desk, Km497.act d (.start n) = (d, Km497.only (-22)) := fun d => if_pos c
  cases s with
  | none =>
    show (if Km497Neutral.isStart (.start n) = true then (if (Km497Neutral.told (Km497.act (Km497.fresh 1) (.start n)).2).headD 0 < 0 then none else some (Km497.act (Km497.fresh 1) (.start n)).1, Km497Neutral.told (Km497.act (Km497.fresh 1) (.start n)).2) else (none, [])) = _
    rw [e]; rfl
  | some d =>
    show (some (Km497.act d (.start n)).1, Km497Neutral.told (Km497.act d (.start n)).2) = _
    rw [e]; rfl
theorem start_ok (s : S0) {n : Nat} (c : ¬ (n = 0 ∨ 10 < n)) : stepC s (mkCall 0 [n]) = (some (Km497.fresh n), [0]) := by
  have e : ∀ d : Desk, Km497.act d (.start n) = (Km497.fresh n, Km497.only 0) := fun d => if_neg c
  cases s with
  | none =>
    show (if Km497Neutral.isStart (.start n) = true then (if (Km497Neutral.told (Km497.act (Km497.fresh 1) (.start n)).2).headD 0 < 0 then none else some (Km497.act (Km497.fresh 1) (.start n)).1, Km497Neutral.told (Km497.act (Km497.fresh 1) (.start n)).2) else (none, [])) = _
    rw [e]; rfl
  | some d =>
    show (some (Km497.act d (.start n)).1, Km497Neutral.told (Km497.act d (.start n)).2) = _
    rw [e]; rfl
theorem step_some (d : Desk) (c : Km497.Call) {d' : Desk} {v : Int} {o : List Nat} (h : Km497.act d c = (d', ⟨v, o⟩)) : stepC (some d) c = (some d', v :: Km497Neutral.nums o) := by
  show (some (Km497.act d c).1, Km497Neutral.told (Km497.act d c).2) = _
  rw [h]; rfl
/-- ahead of a start nothing else is called -/
theorem started {s : S0} {j : Nat} {xs : List Nat} (hj : Km497Neutral.isStart (mkCall j xs) = false) (h : (stepC s (mkCall j xs)).2 ≠ []) : ∃ d, s = some d := by
  cases s with
  | none =>
    refine absurd ?_ h
    show (if Km497Neutral.isStart (mkCall j xs) = true then _ else _ : S0 × List Int).2 = _
    rw [hj]; rfl
  | some d => exact ⟨d, rfl⟩
theorem repl_le {n m : Nat} : ∀ x ∈ List.replicate n (0 : Nat), x ≤ m := fun x hx => by rw [(List.mem_replicate.mp hx).2]; exact Nat.zero_le _
theorem wf_fresh {n : Nat} (c : ¬ (n = 0 ∨ 10 < n)) : WfD (Km497.fresh n) where
  now := ⟨by show 1 ≤ n; omega, by show n ≤ 10; omega, rfl, repl_le, by show Km497.sum (List.replicate 13 0) ≤ 40; decide, ⟨List.replicate 21 0, rfl, rfl, repl_le⟩, fun r h => by cases h⟩
  past := fun b h => nomatch h
  future := fun b h => nomatch h
  len := Nat.zero_le _
theorem wf_become {d : Desk} (W : WfD d) {b : Book} (w : Wf b) : WfD (d.become b) where
  now := w
  past := fun b h => by
    rcases List.mem_cons.mp (List.mem_of_mem_take h) with e | e
    · rw [e]; exact W.now
    · exact W.past b e
  future := fun b h => nomatch h
  len := by
    show ((d.now :: d.past).take 20).length + 0 ≤ 20
    rw [List.length_take]; omega
theorem ixN_at {n j : Nat} (h : j < n) : ixN n (j : Int) = some j := by
  unfold ixN
  rw [if_pos (by omega), if_pos (by omega)]; rfl
theorem mem_set_le {l : List Nat} {i n m : Nat} (h : ∀ x ∈ l, x ≤ m) (hn : n ≤ m) : ∀ x ∈ l.set i n, x ≤ m := fun x hx => by
  rcases List.mem_or_eq_of_mem_set hx with e | e
  · exact h x e
  · rw [e]; exact hn
def spIsGap : Sp := fun vs H Q _ => ∃ n : Nat, vs = [.int (n : Int)] ∧ Q (.bl (decide (1 ≤ n ∧ n ≤ 10))) H
def toldR : Option (Nat × Nat) → List Int
  | none => [0, 0]
  | some r => [(r.1 : Int) + 1, (r.2 : Int)]
def spTold : Sp := fun vs H Q _ => ∃ (rv : V) (r : Option (Nat × Nat)), vs = [rv] ∧ RuleV H rv r ∧ Gives H (toldR r) Q
section
variable {P : Program} {w : World} {K : PySem.W.Frag} {mg : Str → Option Value} {base : Heap} {C : Addr}
theorem ok_is_gap {f : Addr} {fd : FuncData} (F : Fun K "is_gap" "is_gap" s_is_gap f fd) (c_WIDEST_GAP : IsI mg "WIDEST_GAP" (10)) :
    FnOk P w K mg base CX0 1 f fd ["g"] (spIsGap) := by
  refine F.ok sc_is_gap (fun vs H Q E h => ?_) (fun cdv A outer s H vs Q E hr h => ?_)
  · obtain ⟨n, rfl, _⟩ := h
    rfl
  · obtain ⟨n, rfl, q⟩ := h
    refine ⟨_, (pss_one (ps_ret (pe_and (pe_cmpR op_le pe_int (pv 0) (nomark _)) (pe_one (pe_cmpR op_le (pv 0) (pe_ci c_WIDEST_GAP) (nomark _)))))), ?_⟩
    refine ⟨_, rfl, _, _, rfl, rfl, _, rfl, ?_⟩
    refine ite2 (fun c => ?_) (fun c => ?_)
    · have c : (1 : Int) ≤ n := of_decide_eq_true c
      refine ⟨_, rfl, _, _, rfl, rfl, ?_⟩
      have e : decide (1 ≤ n ∧ n ≤ 10) = decide ((n : Int) ≤ 10) := decide_eq_decide.mpr ⟨fun h => by omega, fun h => ⟨by omega, by omega⟩⟩
      rw [e] at q
      exact q
    · have c : ¬ (1 : Int) ≤ n := fun z => c (decide_eq_true z)
      have e : decide (1 ≤ n ∧ n ≤ 10) = false := decide_eq_false fun h => c (by omega)
      rw [e] at q
      exact q
theorem ok_told_rule {f : Addr} {fd : FuncData} (F : Fun K "told_rule" "told_rule" s_told_rule f fd)  :
    FnOk P w K mg base CX0 1 f fd ["rule"] (spTold) := by
  refine F.ok sc_told_rule (fun vs H Q E h => ?_) (fun cdv A outer s H vs Q E hr h => ?_)
  · obtain ⟨rv, r, rfl, _⟩ := h
    rfl
  · obtain ⟨rv, r, rfl, hR, q⟩ := h
    refine ⟨_, (pss_cons (ps_if (pt_cmpR op_isN (pv 0) pe_non (nomark _)) (pss_one (ps_ret (pe_lst (pa_cons pe_int (pa_cons pe_int pa_nil))))) pss_nil)
      (pss_one (ps_ret (pe_lst (pa_cons (pe_op op_add (pe_ix ix_tup (pv 0) pe_int (fun _ _ => rfl)) pe_int) (pa_cons (pe_ix ix_tup (pv 0) pe_int (fun _ _ => rfl)) pa_nil)))))), ?_⟩
    refine ⟨_, rfl, rfl, _, rfl, ?_⟩
    cases r with
    | none =>
      cases (show rv = .non from hR)
      exact iteT ⟨(by show 2 ≤ sizeLine; decide), q.new (Same.refl _) rfl⟩
    | some r =>
      obtain ⟨t, rfl, ht⟩ := hR
      refine iteF ?_
      refine ⟨_, rfl, t, _, 0, _, rfl, rfl, SqT.of ht, atI_nat (j := 0) rfl, _, _, rfl, rfl, _, rfl, t, _, 1, _, rfl, rfl, SqT.of ht, atI_nat (j := 1) rfl, (by show 2 ≤ sizeLine; decide), q.new (Same.refl _) rfl⟩
theorem ok_gs_start {f : Addr} {fd : FuncData} (F : Fun K "gs_start" "gs_start" s_gs_start f fd) (f_is_gap : Has P w K mg base "is_gap" ["g"] 1 (spIsGap)) (c_OUT_OF_BOUNDS : IsI mg "OUT_OF_BOUNDS" (-22)) (m_Descent_begin : HasM P w K mg base C "begin" ["self", "gap"] 1 (spBegin C)) :
    FnOk P w K mg base CX0 2 f fd ["descent", "given"] (spCall (RP C) K 0) := by
  refine F.ok sc_gs_start (fun vs H Q E h => ?_) (fun cdv A outer s H vs Q E hr h => ?_)
  · obtain ⟨a, g, s, F, xs, rfl, _⟩ := h
    rfl
  · obtain ⟨a, g, s, F, xs, rfl, ⟨z, d, O, rfl, hs⟩, hg, nF, hl, hne, q⟩ := h
    have q : Goes C H a (own a z) (stepC s (mkCall 0 xs)) Q := q
    obtain ⟨n, rfl⟩ := one_of hl
    refine ⟨_, (pss_cons (ps_set (i := 2) sc_gs_start.nd rfl (.inl rfl) (pe_ix ix_list (pv 1) pe_int (fun _ _ => rfl)))
      (pss_cons (ps_if (pt_not (pt_val (pe_has f_is_gap (hr.mono (by decide)) (pa_cons (pv 2) pa_nil)))) (pss_one (ps_ret (pe_lst (pa_cons (pe_ci c_OUT_OF_BOUNDS) pa_nil)))) pss_nil)
      (pss_cons (ps_expr (pe_hasM (pv 0) m_Descent_begin (hr.mono (by decide)) (pa_cons (pv 2) pa_nil)))
      (pss_one (ps_ret (pe_lst (pa_cons pe_int pa_nil))))))), ?_⟩
    refine ⟨_, rfl, g, _, 0, _, rfl, rfl, SqL.of hg, atI_nat (j := 0) rfl, _, rfl, n, rfl, _, rfl, ?_⟩
    refine ite2 (fun c => ?_) (fun c => ?_)
    · have c : ¬ (1 ≤ n ∧ n ≤ 10) := fun w => by rw [decide_eq_true w] at c; cases c
      exact ⟨(by show 1 ≤ sizeLine; decide), q.still O hs (Same.refl _) (start_bad s (by omega)) rfl⟩
    · have c : 1 ≤ n ∧ n ≤ 10 := by
        cases e : decide (1 ≤ n ∧ n ≤ 10) with
        | true => exact of_decide_eq_true e
        | false => rw [e] at c; exact absurd rfl c
      have c' : ¬ (n = 0 ∨ 10 < n) := by omega
      refine ⟨_, rfl, a, z.x.d, _, rfl, O.ob.o, flds_none _ _ _ _ _ (by decide +kernel) (by decide +kernel) (by decide +kernel) (by decide +kernel) (by decide +kernel) (by decide +kernel), _, rfl, a, z.x.d, n, _, rfl, O.ob.o, .inr ⟨_, _, _, _, _, rfl⟩, fun H1 z1 O1 k1 o1 => ?_⟩
      refine ⟨(by show 1 ≤ sizeLine; decide), q.done (start_ok s c') O1 ⟨rfl, wf_fresh c'⟩ ⟨fun b o e n => k1 b o e fun w => n (.inl w), fun b hb => ?_, fun b e => k1.free O1.ob.o e⟩ rfl⟩
      rcases o1 b hb with e | e
      · exact .inl (.inl e)
      · exact .inr e
theorem ok_gs_sons {f : Addr} {fd : FuncData} (F : Fun K "gs_sons" "gs_sons" s_gs_sons f fd) (T : TxtC K C) (c_MOST_AT_ONE_AGE : IsI mg "MOST_AT_ONE_AGE" (9)) (c_OLDEST_FATHER : IsI mg "OLDEST_FATHER" (12)) (c_OUT_OF_BOUNDS : IsI mg "OUT_OF_BOUNDS" (-22)) (b_sum : mg "sum" = none) (c_MOST_SONS : IsI mg "MOST_SONS" (40)) (c_TOO_MANY_SONS : IsI mg "TOO_MANY_SONS" (-28)) (m_Descent_mark_change : HasM P w K mg base C "mark_change" ["self"] 2 (spMark C)) :
    FnOk P w K mg base CX0 3 f fd ["descent", "given"] (spCall (RP C) K 1) := by
  refine F.ok sc_gs_sons (fun vs H Q E h => ?_) (fun cdv A outer s H vs Q E hr h => ?_)
  · obtain ⟨a, g, s, F, xs, rfl, _⟩ := h
    rfl
  · obtain ⟨a, g, s, F, xs, rfl, ⟨z, d0, O, rfl, hs⟩, hg, nF, hl, hne, q⟩ := h
    obtain ⟨d, rfl⟩ := started (by rfl) hne
    obtain ⟨rfl, W⟩ := hs
    have q : Goes C H a (own a z) (stepC (some d0) (mkCall 1 xs)) Q := q
    obtain ⟨x, n, rfl⟩ := two_of hl
    refine ⟨_, (pss_cons (ps_set (i := 2) sc_gs_sons.nd rfl (.inl rfl) (pe_ix ix_list (pv 1) pe_int (fun _ _ => rfl)))
      (pss_cons (ps_set (i := 3) sc_gs_sons.nd rfl (.inl rfl) (pe_ix ix_list (pv 1) pe_int (fun _ _ => rfl)))
      (pss_cons (ps_if (PW.pt (pw_or (pt_cmpR op_gt (pv 2) (pe_ci c_OLDEST_FATHER) (nomark _)) (pw_or1 (pt_cmpR op_gt (pv 3) (pe_ci c_MOST_AT_ONE_AGE) (nomark _))))) (pss_one (ps_ret (pe_lst (pa_cons (pe_ci c_OUT_OF_BOUNDS) pa_nil)))) pss_nil)
      (pss_cons (ps_set (i := 4) sc_gs_sons.nd rfl (.inl rfl) (pe_ix ix_list (pe_fld (pv 0) rfl) (pv 2) (fun _ _ => rfl)))
      (pss_cons (ps_if (pt_cmpR op_gt (pe_op op_add (pe_op op_sub (pe_callB (cr_sum rfl) (by rfl) b_sum (by decide +kernel) (pa_cons (pe_fld (pv 0) rfl) pa_nil)) (pv 4)) (pv 3)) (pe_ci c_MOST_SONS) (nomark _)) (pss_one (ps_ret (pe_lst (pa_cons (pe_ci c_TOO_MANY_SONS) pa_nil)))) pss_nil)
      (pss_cons (ps_expr (pe_hasM0 (pv 0) m_Descent_mark_change (hr.mono (by decide))))
      (pss_cons (ps_asg (pv 3) (pg_sub (pe_fld (pv 0) rfl) (pv 2) set_list))
      (pss_one (ps_ret (pe_lst (pa_cons (pv 4) pa_nil))))))))))), ?_⟩
    have hif : Km497.act d0 (.sons x n) = if Km497.AGES ≤ x ∨ 9 < n then (d0, Km497.only (-22)) else if Km497.ALL < d0.now.each - d0.now.w x + n then (d0, Km497.only (-28)) else (d0.become { d0.now with sons := d0.now.sons.set x n }, Km497.only (Km497.n2i (d0.now.w x))) := rfl
    have hbad : Km497.AGES ≤ x ∨ 9 < n → ∀ p, H p = none → Q (.ref p) (upd H p (.lst [.int (-22)])) := fun c =>
      q.still O (sd W) (Same.refl _) (step_some d0 _ (v := -22) (o := []) (hif.trans (if_pos c))) rfl
    refine ⟨_, rfl, g, _, 0, _, rfl, rfl, SqL.of hg, atI_nat (j := 0) rfl, _, rfl, g, _, 1, _, rfl, rfl, SqL.of hg, atI_nat (j := 1) rfl, _, rfl, _, _, rfl, rfl, _, rfl, ?_⟩
    refine ite2 (fun c => ?_) (fun c => ?_)
    · have c : (12 : Int) < x := of_decide_eq_true c
      exact ⟨(by show 1 ≤ sizeLine; decide), hbad (.inl (by show 13 ≤ x; omega))⟩
    have c : ¬ (12 : Int) < x := fun z => c (decide_eq_true z)
    refine ⟨_, rfl, _, _, rfl, rfl, _, rfl, ?_⟩
    refine ite2 (fun c2 => ?_) (fun c2 => ?_)
    · have c2 : (9 : Int) < n := of_decide_eq_true c2
      exact ⟨(by show 1 ≤ sizeLine; decide), hbad (.inr (by omega))⟩
    have c2 : ¬ (9 : Int) < n := fun z => c2 (decide_eq_true z)
    have c3 : ¬ (Km497.AGES ≤ x ∨ 9 < n) := by show ¬ (13 ≤ x ∨ 9 < n); omega
    have hx : x < d0.now.sons.length := by rw [W.now.sl]; omega
    refine ⟨_, rfl, a, C, z.x.d, _, _, rfl, O.ob.o, T.cl, T.nS, flds_sons _ _ _ _ _, _, rfl, z.ls, _, _, _, rfl, rfl, SqL.of O.ob.s, atI_nat (nums_at hx), ?_⟩
    refine ⟨_, rfl, a, C, z.x.d, _, _, rfl, O.ob.o, T.cl, T.nS, flds_sons _ _ _ _ _, z.ls, d0.now.sons.map fun (n : Nat) => (n : Int), rfl, SqL.of (by rw [← nums_ints]; exact O.ob.s), _, rfl, _, _, rfl, rfl, _, rfl, _, _, rfl, rfl, _, _, rfl, rfl, _, rfl, ?_⟩
    rw [sum_map_cast]
    have le : d0.now.sons.getD x 0 ≤ Km497.sum d0.now.sons := sum_le_getD _ _
    refine ite2 (fun c4 => ?_) (fun c4 => ?_)
    · have c4 : (40 : Int) < (Km497.sum d0.now.sons : Int) - (d0.now.sons.getD x 0 : Nat) + n := of_decide_eq_true c4
      exact ⟨(by show 1 ≤ sizeLine; decide), q.still O (sd W) (Same.refl _) (step_some d0 _ (v := -28) (o := []) (hif.trans ((if_neg c3).trans (if_pos (by show 40 < Km497.sum d0.now.sons - d0.now.sons.getD x 0 + n; omega))))) rfl⟩
    have c4 : ¬ (40 : Int) < (Km497.sum d0.now.sons : Int) - (d0.now.sons.getD x 0 : Nat) + n := fun z => c4 (decide_eq_true z)
    have c5 : ¬ (40 < Km497.sum d0.now.sons - d0.now.sons.getD x 0 + n) := by omega
    have plen := W.len
    refine ⟨_, rfl, a, z.x.d, _, rfl, O.ob.o, flds_none _ _ _ _ _ (by decide +kernel) (by decide +kernel) (by decide +kernel) (by decide +kernel) (by decide +kernel) (by decide +kernel), a, z, d0, rfl, O, by omega, fun H1 z1 O1 f1 => ?_⟩
    refine ⟨_, rfl, _, rfl, a, C, z1.x.d, _, _, rfl, O1.ob.o, T.cl, T.nS, flds_sons _ _ _ _ _, _, rfl, z1.ls, _, _, x, rfl, rfl, O1.ob.s, ixN_at (by rw [nums_len]; exact hx), ?_⟩
    rw [nums_set]
    have O2 := O1.sons (d0.now.sons.set x n)
    have w2 : Wf { d0.now with sons := d0.now.sons.set x n } := ⟨W.now.g1, W.now.g2, by rw [← W.now.sl]; exact List.length_set, mem_set_le W.now.s9 (by omega), by rw [sum_set _ _ _ hx]; omega, W.now.fl, W.now.ru⟩
    exact ⟨_, rfl, (by show 1 ≤ sizeLine; decide), q.done (step_some d0 _ (o := []) (hif.trans ((if_neg c3).trans (if_neg c5)))) O2 ⟨rfl, wf_become W w2⟩ (f1.trans (Fr.put (.inr (.inl rfl)) O1.ob.s)) rfl⟩
theorem ok_gs_rule {f : Addr} {fd : FuncData} (F : Fun K "gs_rule" "gs_rule" s_gs_rule f fd) (T : TxtC K C) (c_HIGHEST_GRADE : IsI mg "HIGHEST_GRADE" (40)) (c_OUT_OF_BOUNDS : IsI mg "OUT_OF_BOUNDS" (-22)) (c_ALREADY_SO : IsI mg "ALREADY_SO" (-17)) (m_Descent_mark_change : HasM P w K mg base C "mark_change" ["self"] 2 (spMark C)) :
    FnOk P w K mg base CX0 3 f fd ["descent", "given"] (spCall (RP C) K 2) := by
  refine F.ok sc_gs_rule (fun vs H Q E h => ?_) (fun cdv A outer s H vs Q E hr h => ?_)
  · obtain ⟨a, g, s, F, xs, rfl, _⟩ := h
    rfl
  · obtain ⟨a, g, s, F, xs, rfl, ⟨z, d0, O, rfl, hs⟩, hg, nF, hl, hne, q⟩ := h
    obtain ⟨d, rfl⟩ := started (by rfl) hne
    obtain ⟨rfl, W⟩ := hs
    have q : Goes C H a (own a z) (stepC (some d0) (mkCall 2 xs)) Q := q
    obtain ⟨x, e, rfl⟩ := two_of hl
    refine ⟨_, (pss_cons (ps_set (i := 2) sc_gs_rule.nd rfl (.inl rfl) (pe_ix ix_list (pv 1) pe_int (fun _ _ => rfl)))
      (pss_cons (ps_set (i := 3) sc_gs_rule.nd rfl (.inl rfl) (pe_ix ix_list (pv 1) pe_int (fun _ _ => rfl)))
      (pss_cons (ps_if (PW.pt (pw_or (pt_cmpR op_le (pv 3) (pv 2) (nomark _)) (pw_or1 (pt_cmpR op_gt (pv 3) (pe_ci c_HIGHEST_GRADE) (nomark _))))) (pss_one (ps_ret (pe_lst (pa_cons (pe_ci c_OUT_OF_BOUNDS) pa_nil)))) pss_nil)
      (pss_cons (ps_if (pt_cmpR (op_eqD hr.units) (pe_fld (pv 0) rfl) (pe_tup (pa_cons (pv 2) (pa_cons (pv 3) pa_nil))) (nomark _)) (pss_one (ps_ret (pe_lst (pa_cons (pe_ci c_ALREADY_SO) pa_nil)))) pss_nil)
      (pss_cons (ps_expr (pe_hasM0 (pv 0) m_Descent_mark_change (hr.mono (by decide))))
      (pss_cons (ps_fld (pv 0) (pe_tup (pa_cons (pv 2) (pa_cons (pv 3) pa_nil))) rfl)
      (pss_one (ps_ret (pe_lst (pa_cons pe_int pa_nil)))))))))), ?_⟩
    have hif : Km497.act d0 (.rule x e) = if e ≤ x ∨ 40 < e then (d0, Km497.only (-22)) else if d0.now.rule = some (x, e) then (d0, Km497.only (-17)) else (d0.become { d0.now with rule := some (x, e) }, Km497.only 0) := rfl
    have hbad : e ≤ x ∨ 40 < e → ∀ p, H p = none → Q (.ref p) (upd H p (.lst [.int (-22)])) := fun c =>
      q.still O (sd W) (Same.refl _) (step_some d0 _ (v := -22) (o := []) (hif.trans (if_pos c))) rfl
    refine ⟨_, rfl, g, _, 0, _, rfl, rfl, SqL.of hg, atI_nat (j := 0) rfl, _, rfl, g, _, 1, _, rfl, rfl, SqL.of hg, atI_nat (j := 1) rfl, _, rfl, _, rfl, _, _, rfl, rfl, _, rfl, ?_⟩
    refine ite2 (fun c => ?_) (fun c => ?_)
    · have c : (e : Int) ≤ x := of_decide_eq_true c
      exact ⟨(by show 1 ≤ sizeLine; decide), hbad (.inl (by omega))⟩
    have c : ¬ (e : Int) ≤ x := fun z => c (decide_eq_true z)
    refine ⟨_, rfl, _, _, rfl, rfl, _, rfl, ?_⟩
    refine ite2 (fun c2 => ?_) (fun c2 => ?_)
    · have c2 : (40 : Int) < e := of_decide_eq_true c2
      exact ⟨(by show 1 ≤ sizeLine; decide), hbad (.inr (by omega))⟩
    have c2 : ¬ (40 : Int) < e := fun z => c2 (decide_eq_true z)
    have c3 : ¬ (e ≤ x ∨ 40 < e) := by omega
    refine ⟨_, rfl, a, C, z.x.d, _, _, rfl, O.ob.o, T.cl, T.nR, flds_rule _ _ _ _ _, _, rfl, _, rfl, (by show 2 ≤ sizeLine; decide), fun t0 n0 => ?_⟩
    have s0 : Same H (upd H t0 (.tup [.int (x : Int), .int (e : Int)])) := same_upd n0
    have O0 := O.same s0
    have dt : Dp K (upd H t0 (.tup [.int (x : Int), .int (e : Int)])) (.ref t0) (.tuple [.int (x : Int), .int (e : Int)]) := .tup (SqT.of upd_same) (.cons (.int _) (.cons (.int _) .nil))
    have sh : ∀ i j : Int, SeqAt.shaped (.tuple [.int i, .int j]) = true := fun i j => rfl
    obtain ⟨dd, h1, h2, h3⟩ : ∃ dd, Dp K (upd H t0 (.tup [.int (x : Int), .int (e : Int)])) z.rv dd ∧ SeqAt.shaped dd = true ∧ PyData.eqv dd (.tuple [.int (x : Int), .int (e : Int)]) = decide (d0.now.rule = some (x, e)) := by
      have hR := O0.ob.r
      cases er : d0.now.rule with
      | none =>
        rw [er] at hR
        have hR : z.rv = .non := hR
        rw [hR]
        exact ⟨.none, .non, rfl, by simp [PyData.eqv]⟩
      | some r =>
        rw [er] at hR
        obtain ⟨t, e1, e2⟩ := hR
        rw [e1]
        refine ⟨.tuple [.int (r.1 : Int), .int (r.2 : Int)], .tup (SqT.of e2) (.cons (.int _) (.cons (.int _) .nil)), sh _ _, ?_⟩
        obtain ⟨r1, r2⟩ := r
        have : (r1, r2) = (x, e) ↔ (r1 = x ∧ r2 = e) := Prod.mk.injEq .. ▸ Iff.rfl
        simp only [PyData.eqv, PyData.eqvAll, Bool.and_true, Option.some.injEq, this]
        by_cases k1 : r1 = x
        · by_cases k2 : r2 = e
          · simp [k1, k2]
          · have : ¬ ((r2 : Int) = e) := by omega
            simp [k1, k2, this]
        · have : ¬ ((r1 : Int) = x) := by omega
          simp [k1, this]
    refine ⟨dd, _, h1, dt, h2, sh _ _, _, rfl, ?_⟩
    rw [h3]
    refine ite2 (fun c4 => ?_) (fun c4 => ?_)
    · have c4 := of_decide_eq_true c4
      exact ⟨(by show 1 ≤ sizeLine; decide), q.still O (sd W) s0 (step_some d0 _ (v := -17) (o := []) (hif.trans ((if_neg c3).trans (if_pos c4)))) rfl⟩
    have c4 : ¬ d0.now.rule = some (x, e) := fun z => c4 (decide_eq_true z)
    have plen := W.len
    refine ⟨_, rfl, a, z.x.d, _, rfl, O0.ob.o, flds_none _ _ _ _ _ (by decide +kernel) (by decide +kernel) (by decide +kernel) (by decide +kernel) (by decide +kernel) (by decide +kernel), a, z, d0, rfl, O0, by omega, fun H1 z1 O1 f1 => ?_⟩
    refine ⟨_, rfl, _, rfl, (by show 2 ≤ sizeLine; decide), fun t nt => ?_⟩
    have s2 : Same H1 (upd H1 t (.tup [.int (x : Int), .int (e : Int)])) := same_upd nt
    have O2 := O1.same s2
    refine ⟨_, rfl, a, C, z1.x.d, _, rfl, O2.ob.o, T.cl, T.nR, flds_len _ _ _ _ _, ?_⟩
    rw [put_rule]
    have ht := (ts_ins (o := .ins C z1.x.d (flds d0.now.gap z1.ls z1.lf (.ref t) z1.x)) O2.ob.o) _ _ (upd_same (H := H1) (a := t))
    have O3 := O2.onA (b := { d0.now with rule := some (x, e) }) (rv := .ref t) rfl rfl ⟨t, rfl, ht⟩
    have w2 : Wf { d0.now with rule := some (x, e) } := ⟨W.now.g1, W.now.g2, W.now.sl, W.now.s9, W.now.s40, W.now.fl, fun r h => by cases h; exact ⟨by show x < e; omega, by show e ≤ 40; omega⟩⟩
    have f3 : Fr (upd H1 t (.tup [.int (x : Int), .int (e : Int)])) (own a z1) _ (own a { z1 with rv := .ref t }) := Fr.put (o := .ins C z1.x.d (flds d0.now.gap z1.ls z1.lf (.ref t) z1.x)) (.inl rfl) O2.ob.o
    exact ⟨(by show 1 ≤ sizeLine; decide), q.done (step_some d0 _ (v := 0) (o := []) (hif.trans ((if_neg c3).trans (if_neg c4)))) O3 ⟨rfl, wf_become W w2⟩ ((((Fr.same s0).trans f1).trans (Fr.same s2)).trans f3) rfl⟩
theorem ok_gs_free {f : Addr} {fd : FuncData} (F : Fun K "gs_free" "gs_free" s_gs_free f fd) (T : TxtC K C) (c_NO_RULE : IsI mg "NO_RULE" (-6)) (m_Descent_mark_change : HasM P w K mg base C "mark_change" ["self"] 2 (spMark C)) :
    FnOk P w K mg base CX0 3 f fd ["descent", "given"] (spCall (RP C) K 3) := by
  refine F.ok sc_gs_free (fun vs H Q E h => ?_) (fun cdv A outer s H vs Q E hr h => ?_)
  · obtain ⟨a, g, s, F, xs, rfl, _⟩ := h
    rfl
  · obtain ⟨a, g, s, F, xs, rfl, ⟨z, d0, O, rfl, hs⟩, hg, nF, hl, hne, q⟩ := h
    obtain ⟨d, rfl⟩ := started (by rfl) hne
    obtain ⟨rfl, W⟩ := hs
    have q : Goes C H a (own a z) (stepC (some d0) (mkCall 3 xs)) Q := q
    refine ⟨_, (pss_cons (ps_if (pt_cmpR op_isN (pe_fld (pv 0) rfl) pe_non (nomark _)) (pss_one (ps_ret (pe_lst (pa_cons (pe_ci c_NO_RULE) pa_nil)))) pss_nil)
      (pss_cons (ps_expr (pe_hasM0 (pv 0) m_Descent_mark_change (hr.mono (by decide))))
      (pss_cons (ps_fld (pv 0) pe_non rfl)
      (pss_one (ps_ret (pe_lst (pa_cons pe_int pa_nil))))))), ?_⟩
    have hif : Km497.act d0 .free = if d0.now.rule = none then (d0, Km497.only (-6)) else (d0.become { d0.now with rule := none }, Km497.only 0) := rfl
    refine ⟨_, rfl, a, C, z.x.d, _, _, rfl, O.ob.o, T.cl, T.nR, flds_rule _ _ _ _ _, rfl, _, rfl, ?_⟩
    have hR := O.ob.r
    cases er : d0.now.rule with
    | none =>
      rw [er] at hR
      have hR : z.rv = .non := hR
      rw [hR]
      exact iteT ⟨(by show 1 ≤ sizeLine; decide), q.still O (sd W) (Same.refl _) (step_some d0 _ (v := -6) (o := []) (hif.trans (if_pos er))) rfl⟩
    | some r =>
      rw [er] at hR
      obtain ⟨t, e1, e2⟩ := hR
      rw [e1]
      refine iteF ?_
      have plen := W.len
      refine ⟨_, rfl, a, z.x.d, _, rfl, O.ob.o, flds_none _ _ _ _ _ (by decide +kernel) (by decide +kernel) (by decide +kernel) (by decide +kernel) (by decide +kernel) (by decide +kernel), a, z, d0, rfl, O, by omega, fun H1 z1 O1 f1 => ?_⟩
      refine ⟨_, rfl, a, C, z1.x.d, _, rfl, O1.ob.o, T.cl, T.nR, flds_len _ _ _ _ _, ?_⟩
      rw [put_rule]
      have O3 := O1.onA (b := { d0.now with rule := none }) (rv := .non) rfl rfl rfl
      have w2 : Wf { d0.now with rule := none } := ⟨W.now.g1, W.now.g2, W.now.sl, W.now.s9, W.now.s40, W.now.fl, fun r h => by cases h⟩
      have f3 : Fr H1 (own a z1) _ (own a { z1 with rv := .non }) := Fr.put (o := .ins C z1.x.d (flds d0.now.gap z1.ls z1.lf .non z1.x)) (.inl rfl) O1.ob.o
      exact ⟨(by show 1 ≤ sizeLine; decide), q.done (step_some d0 _ (v := 0) (o := []) (hif.trans (if_neg (by rw [er]; intro z; cases z)))) O3 ⟨rfl, wf_become W w2⟩ (f1.trans f3) rfl⟩
theorem ok_gs_first {f : Addr} {fd : FuncData} (F : Fun K "gs_first" "gs_first" s_gs_first f fd) (T : TxtC K C) (c_MOST_AT_ONE_AGE : IsI mg "MOST_AT_ONE_AGE" (9)) (c_OLDEST_FIRST : IsI mg "OLDEST_FIRST" (20)) (c_OUT_OF_BOUNDS : IsI mg "OUT_OF_BOUNDS" (-22)) (m_Descent_mark_change : HasM P w K mg base C "mark_change" ["self"] 2 (spMark C)) :
    FnOk P w K mg base CX0 3 f fd ["descent", "given"] (spCall (RP C) K 4) := by
  refine F.ok sc_gs_first (fun vs H Q E h => ?_) (fun cdv A outer s H vs Q E hr h => ?_)
  · obtain ⟨a, g, s, F, xs, rfl, _⟩ := h
    rfl
  · obtain ⟨a, g, s, F, xs, rfl, ⟨z, d0, O, rfl, hs⟩, hg, nF, hl, hne, q⟩ := h
    obtain ⟨d, rfl⟩ := started (by rfl) hne
    obtain ⟨rfl, W⟩ := hs
    have q : Goes C H a (own a z) (stepC (some d0) (mkCall 4 xs)) Q := q
    obtain ⟨e, n, rfl⟩ := two_of hl
    refine ⟨_, (pss_cons (ps_set (i := 2) sc_gs_first.nd rfl (.inl rfl) (pe_ix ix_list (pv 1) pe_int (fun _ _ => rfl)))
      (pss_cons (ps_set (i := 3) sc_gs_first.nd rfl (.inl rfl) (pe_ix ix_list (pv 1) pe_int (fun _ _ => rfl)))
      (pss_cons (ps_if (PW.pt (pw_or (pt_cmpR op_gt (pv 2) (pe_ci c_OLDEST_FIRST) (nomark _)) (pw_or1 (pt_cmpR op_gt (pv 3) (pe_ci c_MOST_AT_ONE_AGE) (nomark _))))) (pss_one (ps_ret (pe_lst (pa_cons (pe_ci c_OUT_OF_BOUNDS) pa_nil)))) pss_nil)
      (pss_cons (ps_set (i := 4) sc_gs_first.nd rfl (.inl rfl) (pe_ix ix_list (pe_fld (pv 0) rfl) (pv 2) (fun _ _ => rfl)))
      (pss_cons (ps_expr (pe_hasM0 (pv 0) m_Descent_mark_change (hr.mono (by decide))))
      (pss_cons (ps_asg (pv 3) (pg_sub (pe_fld (pv 0) rfl) (pv 2) set_list))
      (pss_one (ps_ret (pe_lst (pa_cons (pv 4) pa_nil)))))))))), ?_⟩
    have hif : Km497.act d0 (.first e n) = if 20 < e ∨ 9 < n then (d0, Km497.only (-22)) else (d0.become { d0.now with first := d0.now.first.set (e + Km497.OFF) n }, Km497.only (Km497.n2i (d0.now.first.getD (e + Km497.OFF) 0))) := rfl
    have hbad : 20 < e ∨ 9 < n → ∀ p, H p = none → Q (.ref p) (upd H p (.lst [.int (-22)])) := fun c =>
      q.still O (sd W) (Same.refl _) (step_some d0 _ (v := -22) (o := []) (hif.trans (if_pos c))) rfl
    refine ⟨_, rfl, g, _, 0, _, rfl, rfl, SqL.of hg, atI_nat (j := 0) rfl, _, rfl, g, _, 1, _, rfl, rfl, SqL.of hg, atI_nat (j := 1) rfl, _, rfl, _, _, rfl, rfl, _, rfl, ?_⟩
    refine ite2 (fun c => ?_) (fun c => ?_)
    · have c : (20 : Int) < e := of_decide_eq_true c
      exact ⟨(by show 1 ≤ sizeLine; decide), hbad (.inl (by omega))⟩
    have c : ¬ (20 : Int) < e := fun z => c (decide_eq_true z)
    refine ⟨_, rfl, _, _, rfl, rfl, _, rfl, ?_⟩
    refine ite2 (fun c2 => ?_) (fun c2 => ?_)
    · have c2 : (9 : Int) < n := of_decide_eq_true c2
      exact ⟨(by show 1 ≤ sizeLine; decide), hbad (.inr (by omega))⟩
    have c2 : ¬ (9 : Int) < n := fun z => c2 (decide_eq_true z)
    have c3 : ¬ (20 < e ∨ 9 < n) := by omega
    have he : e < z.fs.length := by rw [O.ob.fl]; omega
    have fat : d0.now.first.getD (e + Km497.OFF) 0 = z.fs.getD e 0 := by
      rw [O.ob.fe, Nat.add_comm]
      exact firstRow_at O.ob.fl e (by omega)
    have fst : d0.now.first.set (e + Km497.OFF) n = firstRow (z.fs.set e n) := by
      rw [O.ob.fe]
      exact firstRow_set O.ob.fl e n (by omega)
    rw [fat, fst] at hif
    refine ⟨_, rfl, a, C, z.x.d, _, _, rfl, O.ob.o, T.cl, T.nF, flds_firsts _ _ _ _ _, _, rfl, z.lf, _, _, _, rfl, rfl, SqL.of O.ob.f, atI_nat (nums_at he), ?_⟩
    have plen := W.len
    refine ⟨_, rfl, a, z.x.d, _, rfl, O.ob.o, flds_none _ _ _ _ _ (by decide +kernel) (by decide +kernel) (by decide +kernel) (by decide +kernel) (by decide +kernel) (by decide +kernel), a, z, d0, rfl, O, by omega, fun H1 z1 O1 f1 => ?_⟩
    have efs : firstRow z1.fs = firstRow z.fs := O1.ob.fe.symm.trans O.ob.fe
    have ez : z1.fs = z.fs := firstRow_inj O1.ob.fl O.ob.fl efs
    refine ⟨_, rfl, _, rfl, a, C, z1.x.d, _, _, rfl, O1.ob.o, T.cl, T.nF, flds_firsts _ _ _ _ _, _, rfl, z1.lf, _, _, e, rfl, rfl, O1.ob.f, ixN_at (by rw [nums_len, O1.ob.fl]; omega), ?_⟩
    rw [nums_set]
    have O2 := O1.firsts (z1.fs.set e n) (by rw [List.length_set]; exact O1.ob.fl)
    have w2 : Wf { d0.now with first := firstRow (z.fs.set e n) } := by
      refine ⟨W.now.g1, W.now.g2, W.now.sl, W.now.s9, W.now.s40, ⟨z.fs.set e n, by rw [List.length_set]; exact O.ob.fl, rfl, ?_⟩, W.now.ru⟩
      obtain ⟨fs, h1, h2, h3⟩ := W.now.fl
      have : fs = z.fs := firstRow_inj h1 O.ob.fl (h2.symm.trans O.ob.fe)
      rw [← this]
      exact mem_set_le h3 (by omega)
    have f3 : Fr H1 (own a z1) _ (own a { z1 with fs := z1.fs.set e n }) := Fr.put (o := .lst (nums (z1.fs.set e n))) (.inr (.inr (.inl rfl))) O1.ob.f
    rw [ez] at O2 f3 ⊢
    exact ⟨_, rfl, (by show 1 ≤ sizeLine; decide), q.done (step_some d0 _ (o := []) (hif.trans (if_neg c3))) O2 ⟨rfl, wf_become W w2⟩ (f1.trans f3) rfl⟩
theorem ok_gs_gap {f : Addr} {fd : FuncData} (F : Fun K "gs_gap" "gs_gap" s_gs_gap f fd) (T : TxtC K C) (f_is_gap : Has P w K mg base "is_gap" ["g"] 1 (spIsGap)) (c_OUT_OF_BOUNDS : IsI mg "OUT_OF_BOUNDS" (-22)) (c_ALREADY_SO : IsI mg "ALREADY_SO" (-17)) (m_Descent_mark_change : HasM P w K mg base C "mark_change" ["self"] 2 (spMark C)) :
    FnOk P w K mg base CX0 3 f fd ["descent", "given"] (spCall (RP C) K 5) := by
  refine F.ok sc_gs_gap (fun vs H Q E h => ?_) (fun cdv A outer s H vs Q E hr h => ?_)
  · obtain ⟨a, g, s, F, xs, rfl, _⟩ := h
    rfl
  · obtain ⟨a, g, s, F, xs, rfl, ⟨z, d0, O, rfl, hs⟩, hg, nF, hl, hne, q⟩ := h
    obtain ⟨d, rfl⟩ := started (by rfl) hne
    obtain ⟨rfl, W⟩ := hs
    have q : Goes C H a (own a z) (stepC (some d0) (mkCall 5 xs)) Q := q
    obtain ⟨n, rfl⟩ := one_of hl
    refine ⟨_, (pss_cons (ps_set (i := 2) sc_gs_gap.nd rfl (.inl rfl) (pe_ix ix_list (pv 1) pe_int (fun _ _ => rfl)))
      (pss_cons (ps_if (pt_not (pt_val (pe_has f_is_gap (hr.mono (by decide)) (pa_cons (pv 2) pa_nil)))) (pss_one (ps_ret (pe_lst (pa_cons (pe_ci c_OUT_OF_BOUNDS) pa_nil)))) pss_nil)
      (pss_cons (ps_set (i := 3) sc_gs_gap.nd rfl (.inl rfl) (pe_fld (pv 0) rfl))
      (pss_cons (ps_if (pt_cmpR op_eq (pv 2) (pv 3) (nomark _)) (pss_one (ps_ret (pe_lst (pa_cons (pe_ci c_ALREADY_SO) pa_nil)))) pss_nil)
      (pss_cons (ps_expr (pe_hasM0 (pv 0) m_Descent_mark_change (hr.mono (by decide))))
      (pss_cons (ps_fld (pv 0) (pv 2) rfl)
      (pss_one (ps_ret (pe_lst (pa_cons (pv 3) pa_nil)))))))))), ?_⟩
    have hif : Km497.act d0 (.gap n) = if n = 0 ∨ 10 < n then (d0, Km497.only (-22)) else if n = d0.now.gap then (d0, Km497.only (-17)) else (d0.become { d0.now with gap := n }, Km497.only (Km497.n2i d0.now.gap)) := rfl
    refine ⟨_, rfl, g, _, 0, _, rfl, rfl, SqL.of hg, atI_nat (j := 0) rfl, _, rfl, n, rfl, _, rfl, ?_⟩
    refine ite2 (fun c => ?_) (fun c => ?_)
    · have c : ¬ (1 ≤ n ∧ n ≤ 10) := fun w => by rw [decide_eq_true w] at c; cases c
      exact ⟨(by show 1 ≤ sizeLine; decide), q.still O (sd W) (Same.refl _) (step_some d0 _ (v := -22) (o := []) (hif.trans (if_pos (by omega)))) rfl⟩
    have c : 1 ≤ n ∧ n ≤ 10 := by
      cases e : decide (1 ≤ n ∧ n ≤ 10) with
      | true => exact of_decide_eq_true e
      | false => rw [e] at c; exact absurd rfl c
    have c' : ¬ (n = 0 ∨ 10 < n) := by omega
    refine ⟨_, rfl, a, C, z.x.d, _, _, rfl, O.ob.o, T.cl, T.nG, flds_gap _ _ _ _ _, _, rfl, _, rfl, rfl, _, rfl, ?_⟩
    refine ite2 (fun c2 => ?_) (fun c2 => ?_)
    · have c2 : (n : Int) = d0.now.gap := V.int.inj (of_decide_eq_true c2)
      exact ⟨(by show 1 ≤ sizeLine; decide), q.still O (sd W) (Same.refl _) (step_some d0 _ (v := -17) (o := []) (hif.trans ((if_neg c').trans (if_pos (by omega))))) rfl⟩
    have c2 : ¬ n = d0.now.gap := fun z => c2 (decide_eq_true (by rw [z]))
    have plen := W.len
    refine ⟨_, rfl, a, z.x.d, _, rfl, O.ob.o, flds_none _ _ _ _ _ (by decide +kernel) (by decide +kernel) (by decide +kernel) (by decide +kernel) (by decide +kernel) (by decide +kernel), a, z, d0, rfl, O, by omega, fun H1 z1 O1 f1 => ?_⟩
    refine ⟨_, rfl, _, rfl, a, C, z1.x.d, _, rfl, O1.ob.o, T.cl, T.nG, flds_len _ _ _ _ _, ?_⟩
    rw [put_gap]
    have O3 := O1.onA (b := { d0.now with gap := n }) (rv := z1.rv) rfl rfl (O1.ob.r.ts (ts_ins O1.ob.o))
    have w2 : Wf { d0.now with gap := n } := ⟨c.1, c.2, W.now.sl, W.now.s9, W.now.s40, W.now.fl, W.now.ru⟩
    have f3 : Fr H1 (own a z1) _ (own a { z1 with rv := z1.rv }) := Fr.put (o := .ins C z1.x.d (flds n z1.ls z1.lf z1.rv z1.x)) (.inl rfl) O1.ob.o
    exact ⟨_, rfl, (by show 1 ≤ sizeLine; decide), q.done (step_some d0 _ (o := []) (hif.trans ((if_neg c').trans (if_neg c2)))) O3 ⟨rfl, wf_become W w2⟩ (f1.trans f3) rfl⟩
theorem ok_gs_back {f : Addr} {fd : FuncData} (F : Fun K "gs_back" "gs_back" s_gs_back f fd) (T : TxtC K C) (b_len : mg "len" = none) (c_NO_CHANGE : IsI mg "NO_CHANGE" (-2)) (m_Descent_take_back : HasM P w K mg base C "take_back" ["self"] 2 (spTake C)) :
    FnOk P w K mg base CX0 3 f fd ["descent", "given"] (spCall (RP C) K 18) := by
  refine F.ok sc_gs_back (fun vs H Q E h => ?_) (fun cdv A outer s H vs Q E hr h => ?_)
  · obtain ⟨a, g, s, F, xs, rfl, _⟩ := h
    rfl
  · obtain ⟨a, g, s, F, xs, rfl, ⟨z, d0, O, rfl, hs⟩, hg, nF, hl, hne, q⟩ := h
    obtain ⟨d, rfl⟩ := started (by rfl) hne
    obtain ⟨rfl, W⟩ := hs
    have q : Goes C H a (own a z) (stepC (some d0) (mkCall 18 xs)) Q := q
    refine ⟨_, (pss_cons (ps_if (pt_cmpR op_eq (pe_callB call_len_seq (by rfl) b_len PySem.boot_len (pa_cons (pe_fld (pv 0) rfl) pa_nil)) pe_int (nomark _)) (pss_one (ps_ret (pe_lst (pa_cons (pe_ci c_NO_CHANGE) pa_nil)))) pss_nil)
      (pss_cons (ps_expr (pe_hasM0 (pv 0) m_Descent_take_back (hr.mono (by decide))))
      (pss_one (ps_ret (pe_lst (pa_cons (pe_callB call_len_seq (by rfl) b_len PySem.boot_len (pa_cons (pe_fld (pv 0) rfl) pa_nil)) pa_nil)))))), ?_⟩
    have hif : Km497.act d0 .back = match d0.past with
      | [] => (d0, Km497.only (-2))
      | k :: r => (⟨k, r, d0.now :: d0.future⟩, Km497.only (Km497.n2i r.length)) := rfl
    have len : z.es.length = d0.past.length := by rw [← O.pe.len, List.length_reverse]
    refine ⟨_, rfl, a, C, z.x.d, _, _, rfl, O.ob.o, T.cl, T.nE, flds_earlier _ _ _ _ _, z.x.le, _, rfl, .inl (SqL.of O.e), rfl, _, rfl, ?_⟩
    refine ite2 (fun c => ?_) (fun c => ?_)
    · have c : (((z.es.map V.ref).length : Nat) : Int) = 0 := V.int.inj (of_decide_eq_true c)
      have ep : d0.past = [] := List.eq_nil_of_length_eq_zero (by rw [List.length_map] at c; omega)
      rw [ep] at hif
      exact ⟨(by show 1 ≤ sizeLine; decide), q.still O (sd W) (Same.refl _) (step_some d0 _ (v := -2) (o := []) hif) rfl⟩
    have c : ¬ d0.past.length = 0 := fun w => c (decide_eq_true (by rw [List.length_map, len, w]; rfl))
    have plen := W.len
    cases ep : d0.past with
    | nil => rw [ep] at c; exact absurd rfl c
    | cons k r =>
      rw [ep] at hif plen
      rw [List.length_cons] at plen
      refine ⟨_, rfl, a, z.x.d, _, rfl, O.ob.o, flds_none _ _ _ _ _ (by decide +kernel) (by decide +kernel) (by decide +kernel) (by decide +kernel) (by decide +kernel) (by decide +kernel), a, z, d0, k, r, rfl, O, ep, by omega, fun H1 z1 O1 f1 => ?_⟩
      have len1 : z1.es.length = r.length := by rw [← O1.pe.len, List.length_reverse]
      refine ⟨_, rfl, a, C, z1.x.d, _, _, rfl, O1.ob.o, T.cl, T.nE, flds_earlier _ _ _ _ _, z1.x.le, _, rfl, .inl (SqL.of O1.e), (by show 1 ≤ sizeLine; decide), ?_⟩
      have wk : WfD ⟨k, r, d0.now :: d0.future⟩ := ⟨W.past k (by rw [ep]; exact List.mem_cons_self), fun b hb => W.past b (by rw [ep]; exact List.mem_cons_of_mem _ hb), fun b hb => by
        rcases List.mem_cons.mp hb with e | e
        · rw [e]; exact W.now
        · exact W.future b e, by show r.length + (d0.future.length + 1) ≤ 20; omega⟩
      refine q.done (step_some d0 _ (o := []) hif) O1 ⟨rfl, wk⟩ f1 ?_
      rw [List.length_map, len1]; rfl
theorem ok_gs_again {f : Addr} {fd : FuncData} (F : Fun K "gs_again" "gs_again" s_gs_again f fd) (T : TxtC K C) (b_len : mg "len" = none) (c_NO_CHANGE : IsI mg "NO_CHANGE" (-2)) (m_Descent_do_again : HasM P w K mg base C "do_again" ["self"] 2 (spAgain C)) :
    FnOk P w K mg base CX0 3 f fd ["descent", "given"] (spCall (RP C) K 19) := by
  refine F.ok sc_gs_again (fun vs H Q E h => ?_) (fun cdv A outer s H vs Q E hr h => ?_)
  · obtain ⟨a, g, s, F, xs, rfl, _⟩ := h
    rfl
  · obtain ⟨a, g, s, F, xs, rfl, ⟨z, d0, O, rfl, hs⟩, hg, nF, hl, hne, q⟩ := h
    obtain ⟨d, rfl⟩ := started (by rfl) hne
    obtain ⟨rfl, W⟩ := hs
    have q : Goes C H a (own a z) (stepC (some d0) (mkCall 19 xs)) Q := q
    refine ⟨_, (pss_cons (ps_if (pt_cmpR op_eq (pe_callB call_len_seq (by rfl) b_len PySem.boot_len (pa_cons (pe_fld (pv 0) rfl) pa_nil)) pe_int (nomark _)) (pss_one (ps_ret (pe_lst (pa_cons (pe_ci c_NO_CHANGE) pa_nil)))) pss_nil)
      (pss_cons (ps_expr (pe_hasM0 (pv 0) m_Descent_do_again (hr.mono (by decide))))
      (pss_one (ps_ret (pe_lst (pa_cons (pe_callB call_len_seq (by rfl) b_len PySem.boot_len (pa_cons (pe_fld (pv 0) rfl) pa_nil)) pa_nil)))))), ?_⟩
    have hif : Km497.act d0 .again = match d0.future with
      | [] => (d0, Km497.only (-2))
      | k :: r => (⟨k, (d0.now :: d0.past).take Km497.PAST, r⟩, Km497.only (Km497.n2i r.length)) := rfl
    have len : z.ts.length = d0.future.length := by rw [← O.pl.len, List.length_reverse]
    refine ⟨_, rfl, a, C, z.x.d, _, _, rfl, O.ob.o, T.cl, T.nL, flds_later _ _ _ _ _, z.x.ll, _, rfl, .inl (SqL.of O.l), rfl, _, rfl, ?_⟩
    refine ite2 (fun c => ?_) (fun c => ?_)
    · have c : (((z.ts.map V.ref).length : Nat) : Int) = 0 := V.int.inj (of_decide_eq_true c)
      have ep : d0.future = [] := List.eq_nil_of_length_eq_zero (by rw [List.length_map] at c; omega)
      rw [ep] at hif
      exact ⟨(by show 1 ≤ sizeLine; decide), q.still O (sd W) (Same.refl _) (step_some d0 _ (v := -2) (o := []) hif) rfl⟩
    have c : ¬ d0.future.length = 0 := fun w => c (decide_eq_true (by rw [List.length_map, len, w]; rfl))
    have plen := W.len
    cases ep : d0.future with
    | nil => rw [ep] at c; exact absurd rfl c
    | cons k r =>
      rw [ep] at hif plen
      rw [List.length_cons] at plen
      have tk : (d0.now :: d0.past).take Km497.PAST = d0.now :: d0.past := List.take_of_length_le (by show d0.past.length + 1 ≤ 20; omega)
      rw [tk] at hif
      refine ⟨_, rfl, a, z.x.d, _, rfl, O.ob.o, flds_none _ _ _ _ _ (by decide +kernel) (by decide +kernel) (by decide +kernel) (by decide +kernel) (by decide +kernel) (by decide +kernel), a, z, d0, k, r, rfl, O, ep, by omega, fun H1 z1 O1 f1 => ?_⟩
      have len1 : z1.ts.length = r.length := by rw [← O1.pl.len, List.length_reverse]
      refine ⟨_, rfl, a, C, z1.x.d, _, _, rfl, O1.ob.o, T.cl, T.nL, flds_later _ _ _ _ _, z1.x.ll, _, rfl, .inl (SqL.of O1.l), (by show 1 ≤ sizeLine; decide), ?_⟩
      have wk : WfD ⟨k, d0.now :: d0.past, r⟩ := ⟨W.future k (by rw [ep]; exact List.mem_cons_self), fun b hb => by
        rcases List.mem_cons.mp hb with e | e
        · rw [e]; exact W.now
        · exact W.past b e, fun b hb => W.future b (by rw [ep]; exact List.mem_cons_of_mem _ hb), by show d0.past.length + 1 + r.length ≤ 20; omega⟩
      refine q.done (step_some d0 _ (o := []) hif) O1 ⟨rfl, wk⟩ f1 ?_
      rw [List.length_map, len1]; rfl
theorem ok_gs_state {f : Addr} {fd : FuncData} (F : Fun K "gs_state" "gs_state" s_gs_state f fd) (T : TxtC K C) (b_len : mg "len" = none) (f_told_rule : Has P w K mg base "told_rule" ["rule"] 1 (spTold)) (b_sum : mg "sum" = none) :
    FnOk P w K mg base CX0 2 f fd ["descent", "given"] (spCall (RP C) K 20) := by
  refine F.ok sc_gs_state (fun vs H Q E h => ?_) (fun cdv A outer s H vs Q E hr h => ?_)
  · obtain ⟨a, g, s, F, xs, rfl, _⟩ := h
    rfl
  · obtain ⟨a, g, s, F, xs, rfl, ⟨z, d0, O, rfl, hs⟩, hg, nF, hl, hne, q⟩ := h
    obtain ⟨d, rfl⟩ := started (by rfl) hne
    obtain ⟨rfl, W⟩ := hs
    have q : Goes C H a (own a z) (stepC (some d0) (mkCall 20 xs)) Q := q
    refine ⟨_, (pss_cons (ps_set (i := 2) sc_gs_state.nd rfl (.inl rfl) (pe_lst (pa_cons (pe_callB call_len_seq (by rfl) b_len PySem.boot_len (pa_cons (pe_fld (pv 0) rfl) pa_nil)) (pa_cons (pe_callB call_len_seq (by rfl) b_len PySem.boot_len (pa_cons (pe_fld (pv 0) rfl) pa_nil)) pa_nil))))
      (pss_one (ps_ret (pe_op op_cat (pe_op op_cat (pe_op op_cat (pe_lst (pa_cons (pe_fld (pv 0) rfl) pa_nil)) (pe_has f_told_rule (hr.mono (by decide)) (pa_cons (pe_fld (pv 0) rfl) pa_nil))) (pe_lst (pa_cons (pe_callB (cr_sum rfl) (by rfl) b_sum (by decide +kernel) (pa_cons (pe_fld (pv 0) rfl) pa_nil)) pa_nil))) (pv 2))))), ?_⟩
    have hif : Km497.act d0 .state = (d0, ⟨Km497.n2i d0.now.gap, [(d0.now.rule.map fun r => r.1 + 1).getD 0, (d0.now.rule.map fun r => r.2).getD 0, d0.now.total 0, d0.past.length, d0.future.length]⟩) := rfl
    have len1 : z.es.length = d0.past.length := by rw [← O.pe.len, List.length_reverse]
    have len2 : z.ts.length = d0.future.length := by rw [← O.pl.len, List.length_reverse]
    refine ⟨_, rfl, a, C, z.x.d, _, _, rfl, O.ob.o, T.cl, T.nE, flds_earlier _ _ _ _ _, z.x.le, _, rfl, .inl (SqL.of O.e), ?_⟩
    refine ⟨_, rfl, a, C, z.x.d, _, _, rfl, O.ob.o, T.cl, T.nL, flds_later _ _ _ _ _, z.x.ll, _, rfl, .inl (SqL.of O.l), (by show 2 ≤ sizeLine; decide), fun p1 n1 => ?_⟩
    rw [List.length_map, List.length_map, len1, len2]
    have s1 := same_upd (o := .lst [.int (d0.past.length : Nat), .int (d0.future.length : Nat)]) n1
    have O1 := O.same s1
    refine ⟨_, rfl, a, C, z.x.d, _, _, rfl, O1.ob.o, T.cl, T.nG, flds_gap _ _ _ _ _, (by show 1 ≤ sizeLine; decide), fun p2 n2 => ?_⟩
    have s2 := same_upd (o := .lst [.int (d0.now.gap : Int)]) n2
    have O2 := O1.same s2
    refine ⟨_, rfl, a, C, z.x.d, _, _, rfl, O2.ob.o, T.cl, T.nR, flds_rule _ _ _ _ _, z.rv, _, rfl, O2.ob.r, fun H3 p3 s3 n3 e3 => ?_⟩
    have O3 := O2.same s3
    have tl : (toldR d0.now.rule).length = 2 := by cases d0.now.rule <;> rfl
    refine ⟨p2, p3, _, _, rfl, rfl, s3 _ _ upd_same, e3, (by rw [List.length_map, tl]; show 1 + 2 ≤ sizeLine; decide), fun p4 n4 => ?_⟩
    have s4 := same_upd (o := .lst ([V.int (d0.now.gap : Int)] ++ (toldR d0.now.rule).map V.int)) n4
    have O4 := O3.same s4
    refine ⟨_, rfl, a, C, z.x.d, _, _, rfl, O4.ob.o, T.cl, T.nF, flds_firsts _ _ _ _ _, z.lf, z.fs.map fun (n : Nat) => (n : Int), rfl, SqL.of (by rw [← nums_ints]; exact O4.ob.f), (by show 1 ≤ sizeLine; decide), fun p5 n5 => ?_⟩
    rw [sum_map_cast]
    have s5 := same_upd (o := .lst [.int (Km497.sum z.fs : Int)]) n5
    refine ⟨p4, p5, _, _, rfl, rfl, s5 _ _ upd_same, upd_same, (by rw [List.length_append, List.length_map, tl]; show 1 + 2 + 1 ≤ sizeLine; decide), fun p6 n6 => ?_⟩
    have s6 := same_upd (o := .lst ([V.int (d0.now.gap : Int)] ++ (toldR d0.now.rule).map V.int ++ [.int (Km497.sum z.fs : Int)])) n6
    refine ⟨_, rfl, p6, p1, _, _, rfl, rfl, upd_same, s6 _ _ (s5 _ _ (s4 _ _ (s3 _ _ (s2 _ _ upd_same)))), (by rw [List.length_append, List.length_append, List.length_map, tl]; show 1 + 2 + 1 + 2 ≤ sizeLine; decide), ?_⟩
    refine q.still O (sd W) (((((s1.trans s2).trans s3).trans s4).trans s5).trans s6) (step_some d0 _ hif) ?_
    have et : d0.now.total 0 = Km497.sum z.fs := by
      show Km497.sum d0.now.first = _
      rw [O.ob.fe, firstRow_sum]
    rw [et]
    cases d0.now.rule <;> rfl
end
end Oos
namespace Oos
open PySem PySem.Spec PyProof.Rows L2
open Km497 (Book)
theorem nums_signed (x : Int) : Km497Neutral.nums (Km497.signed x) = signI x := by
  unfold Km497Neutral.nums Km497.signed signI
  by_cases c : x < 0
  · rw [if_pos c, if_pos c]; rfl
  · rw [if_neg c, if_neg c]; rfl
theorem nums_app (a b : List Nat) : Km497Neutral.nums (a ++ b) = Km497Neutral.nums a ++ Km497Neutral.nums b := List.map_append
/-- those lost of one man's sons, of the ages below k -/
def GLk (b : Book) (e : Int) (k : Nat) : Int := Sm k (fun x => if counted b.rule ((x : Int) - e) = true then 0 else (b.w x : Int))
theorem GL_is (b : Book) (e : Int) : GL b e = GLk b e 13 := by unfold GL GLk; exact rfl
theorem GLk_zero (b : Book) (e : Int) : GLk b e 0 = 0 := rfl
theorem GLk_lost {b : Book} {e : Int} {k : Nat} (c : ¬ counted b.rule ((k : Int) - e) = true) : GLk b e (k + 1) = GLk b e k + (b.w k : Int) := by
  show Sm k _ + (if counted b.rule ((k : Int) - e) = true then 0 else (b.w k : Int)) = _
  rw [if_neg c]; rfl
theorem GLk_in {b : Book} {e : Int} {k : Nat} (c : counted b.rule ((k : Int) - e) = true) : GLk b e (k + 1) = GLk b e k := by
  show Sm k _ + (if counted b.rule ((k : Int) - e) = true then 0 else (b.w k : Int)) = _
  rw [if_pos c, Int.add_zero]; rfl
theorem S_more (f : Int → Int) {d : D} {i : Nat} {q : Int × Int} (h : d[i]? = some q) : S f (d.take (i + 1)) = S f (d.take i) + f q.1 * q.2 := by
  rw [List.take_add_one, h, S_append]
  show S f (d.take i) + S f [q] = _
  rw [S_cons, S_nil, Int.add_zero]
def spLostG (C : Addr) : Sp := fun vs H Q _ => ∃ (a : Addr) (dx : Dx) (ls lf f : Addr) (rv : V) (fs : List Nat) (b : Book) (d : D), vs = [.ref a, .ref f] ∧ Obj4 C H a dx ls lf rv fs b ∧ b.sons.length = 13 ∧ (∀ n ∈ b.sons, n ≤ 9) ∧
  H f = some (.dK (enc d)) ∧ ∀ H', Same H H' → Q (.int (S (GL b) d)) H'
def spBirths (C : Addr) : Sp := fun vs H Q _ => ∃ (a : Addr) (dx : Dx) (ls lf : Addr) (rv : V) (fs : List Nat) (b : Book), vs = [.ref a] ∧ Obj4 C H a dx ls lf rv fs b ∧ b.sons.length = 13 ∧ ∀ H', Same H H' → Q (.int (b.fathers : Int)) H'
section
variable {P : Program} {w : World} {K : PySem.W.Frag} {mg : Str → Option Value} {base : Heap} {C : Addr}
theorem ok_lost_sons {f : Addr} {fd : FuncData} (F : Fun K "lost_sons" "lost_sons" s_lost_sons f fd) (T : TxtC K C) (b_enumerate : mg "enumerate" = none) (f_is_counted : Has P w K mg base "is_counted" ["rule", "grade"] 1 (spCounted)) :
    FnOk P w K mg base CX0 2 f fd ["descent", "fathers"] (spLostG C) := by
  refine F.ok sc_lost_sons (fun vs H Q E h => ?_) (fun cdv A outer s H vs Q E hr h => ?_)
  · obtain ⟨a, dx, ls, lf, f, rv, fs, b, d, rfl, _⟩ := h
    rfl
  · obtain ⟨a, dx, ls, lf, f, rv, fs, b, d, rfl, O, sl, s9, hf, q⟩ := h
    refine ⟨_, (pss_cons (ps_set (i := 2) sc_lost_sons.nd rfl (.inl rfl) pe_int)
      (pss_cons (ps_lock (ps_for PassesOwn.never rfl (pi_items (pv 1)) (pg_tup rfl (pgs_cons (pg_name (i := 3) sc_lost_sons.nd rfl (.inl rfl)) (pgs_cons (pg_name (i := 4) sc_lost_sons.nd rfl (.inl rfl)) pgs_nil))) (pss_one (ps_for PassesOwn.never rfl (pi_enum (by rfl) b_enumerate (pa_cons (pe_fld (pv 0) rfl) pa_nil)) (pg_tup rfl (pgs_cons (pg_name (i := 5) sc_lost_sons.nd rfl (.inl rfl)) (pgs_cons (pg_name (i := 6) sc_lost_sons.nd rfl (.inl rfl)) pgs_nil))) (pss_one (ps_if (pt_not (pt_val (pe_has f_is_counted (hr.mono (by decide)) (pa_cons (pe_fld (pv 0) rfl) (pa_cons (pe_op op_sub (pv 5) (pv 3)) pa_nil))))) (pss_one (ps_aug (i := 2) sc_lost_sons.nd rfl (.inl rfl) (pe_op op_mul (pv 4) (pv 6)) ip_add)) pss_nil))))))
      (pss_one (ps_ret (pv 2))))), ?_⟩
    refine ⟨f, .dK (enc d), hf, trivial, fun od => ?_⟩
    have O' : Obj4 C (upd H f (.frz od (.dK (enc d)))) a dx ls lf rv fs b := O.off hf
    refine ⟨_, rfl, f, od, enc d, rfl, upd_same, ?_⟩
    refine for_it (walk_encs (f := f) (od := od) (d := d)) (fun i σ H' => ∃ y3 y4 y5 y6, σ = [some (.ref a), some (.ref f), some (.int (S (GL b) (d.take i))), y3, y4, y5, y6] ∧ Same (upd H f (.frz od (.dK (enc d)))) H')
      ⟨none, none, none, none, rfl, Same.refl _⟩ ?_ ?_ ?_
    · rintro i σ H' _ ⟨_, _, _, _, _, s5⟩
      exact s5 _ _ upd_same
    · rintro i v σ H' H2 hi ⟨y3, y4, y5, y6, rfl, s5⟩ ⟨T', ⟨e, m⟩, hp, rfl, nT, rfl⟩
      have smT : Same H' (upd H' T' (.tup [.int e, .int m])) := same_upd nT
      have s6 := s5.trans smT
      have O6 := O'.same s6
      have step : S (GL b) (d.take (i + 1)) = S (GL b) (d.take i) + GLk b e 13 * m := by
        rw [S_more (GL b) hp, GL_is]
      have z0 : S (GL b) (d.take i) + GLk b e 0 * m = S (GL b) (d.take i) := by
        rw [GLk_zero, Int.zero_mul, Int.add_zero]
      generalize hS : S (GL b) (d.take i) = s0 at *
      refine ⟨T', _, rfl, .inl (.inl upd_same), rfl, _, _, rfl, _, _, rfl, rfl, ?_⟩
      refine ⟨_, rfl, a, C, dx.d, _, _, rfl, O6.o, T.cl, T.nS, flds_sons _ _ _ _ _, ls, _, rfl, SqL.of O6.s, ?_⟩
      refine for_it (walk_enums (K := K) (a := ls) (l := b.sons)) (fun k σ H' => ∃ y5 y6, σ = [some (.ref a), some (.ref f), some (.int (s0 + GLk b e k * m)), some (.int e), some (.int m), y5, y6] ∧ Same (upd H f (.frz od (.dK (enc d)))) H')
        ⟨y5, y6, by rw [z0]; rfl, s6⟩ ?_ ?_ ?_
      · rintro k σ H' _ ⟨_, _, _, s7⟩
        exact SqL.of (O'.same s7).s
      · rintro k v σ H' H2 hk ⟨y5, y6, rfl, s7⟩ ⟨T', rfl, nT, rfl⟩
        have smT : Same H' (upd H' T' (.tup [.int (k : Nat), .int (b.sons.getD k 0 : Nat)])) := same_upd nT
        have s8 := s7.trans smT
        have O8 := O'.same s8
        refine ⟨T', _, rfl, .inl (.inl upd_same), rfl, _, _, rfl, _, _, rfl, rfl, ?_⟩
        have w9 : b.w k ≤ 9 := by
          show b.sons.getD k 0 ≤ 9
          rw [List.getD_eq_getElem?_getD, List.getElem?_eq_getElem hk]
          exact s9 _ (List.getElem_mem hk)
        refine ⟨_, rfl, a, C, dx.d, _, _, rfl, O8.o, T.cl, T.nR, flds_rule _ _ _ _ _, _, rfl, _, rfl, _, _, rfl, rfl, rv, _, b.rule, rfl, O8.r, _, rfl, ?_⟩
        refine ite2 (fun c => ?_) (fun c => ?_)
        · have c : ¬ counted b.rule ((k : Int) - e) = true := fun z => by rw [z] at c; cases c
          have st := GLk_lost c
          refine ⟨_, rfl, _, rfl, _, rfl, _, _, rfl, rfl, .inr ⟨(by show -(2 ^ 64) < ((b.w k : Nat) : Int); omega), (by show ((b.w k : Nat) : Int) < 2 ^ 64; omega)⟩, _, _, rfl, rfl, ?_⟩
          refine ⟨some (.int (k : Nat)), some (.int (b.sons.getD k 0 : Nat)), ?_, s8⟩
          rw [st, Int.add_mul, ← Int.add_assoc, Int.mul_comm (b.w k : Int) m]
          rfl
        · have c : counted b.rule ((k : Int) - e) = true := by
            cases z : counted b.rule ((k : Int) - e) with
            | true => rfl
            | false => rw [z] at c; exact absurd rfl c
          have st := GLk_in c
          refine ⟨some (.int (k : Nat)), some (.int (b.sons.getD k 0 : Nat)), ?_, s8⟩
          rw [st]
          rfl
      · rintro σ H' ⟨y5, y6, rfl, s7⟩
        refine ⟨some (.int e), some (.int m), y5, y6, ?_, s7⟩
        rw [step, sl]
    · rintro σ H' ⟨y3, y4, y5, y6, rfl, s5⟩
      refine ⟨s5 _ _ upd_same, _, rfl, ?_⟩
      rw [List.take_length]
      refine q _ (fun b' x e => ?_)
      by_cases c : b' = f
      · subst c
        rw [upd_same]
        exact hf.symm.trans e
      · rw [upd_ne c]
        exact s5 _ _ (by rw [upd_ne c]; exact e)
theorem ok_ages_at_births {f : Addr} {fd : FuncData} (F : Fun K "ages_at_births" "ages_at_births" s_ages_at_births f fd) (T : TxtC K C) (b_sum : mg "sum" = none) (b_enumerate : mg "enumerate" = none) :
    FnOk P w K mg base CX0 1 f fd ["descent"] (spBirths C) := by
  refine F.ok sc_ages_at_births (fun vs H Q E h => ?_) (fun cdv A outer s H vs Q E hr h => ?_)
  · obtain ⟨a, dx, ls, lf, rv, fs, b, rfl, _⟩ := h
    rfl
  · obtain ⟨a, dx, ls, lf, rv, fs, b, rfl, O, sl, q⟩ := h
    refine ⟨_, (pss_one (ps_ret (pe_callB (cr_sum rfl) (by rfl) b_sum (by decide +kernel) (pa_cons (pe_lc (own := [("x", 1), ("sons", 2)]) (g := gTup K 2 (gCons (gName 1) (gCons (gName 2) (gNil)))) rfl sc_ages_at_births.nd (pi_enum (by rfl) b_enumerate (pa_cons (pe_fld (pv 0) rfl) pa_nil)) (blkOk_by (own := [("x", 1), ("sons", 2)]) (N := ["descent", "x", "sons"]) (sc := defScope s_ages_at_births) (by decide +kernel)) (fun _ _ _ _ _ => by exact (pg_tup rfl (pgs_cons (pg_name (i := 1) sc_ages_at_births.nd rfl (.inl rfl)) (pgs_cons (pg_name (i := 2) sc_ages_at_births.nd rfl (.inl rfl)) pgs_nil)))) (fun _ _ _ _ _ => by exact pts_nil) (fun _ _ _ _ _ => by exact (pe_op op_mul (pv 1) (pv 2)))) pa_nil)))), ?_⟩
    refine ⟨_, rfl, a, C, dx.d, _, _, rfl, O.o, T.cl, T.nS, flds_sons _ _ _ _ _, ls, _, rfl, SqL.of O.s, fun D nD => ?_⟩
    refine lc_it (walk_enums (K := K) (a := ls) (l := b.sons)) (fun n H' => Same H H' ∧ H' D = some (.lst (nums ((List.range n).map fun x => x * b.w x)))) ⟨same_upd nD, upd_same⟩ ?_ ?_ ?_
    · rintro n H' _ ⟨s5, _⟩
      exact SqL.of (O.same s5).s
    · rintro n v H' H2 hn ⟨s5, eD⟩ ⟨T', rfl, nT, rfl⟩
      rw [sl] at hn
      have sT : Same H' (upd H' T' (.tup [.int (n : Nat), .int (b.sons.getD n 0 : Nat)])) := same_upd nT
      refine ⟨T', _, rfl, .inl (.inl upd_same), rfl, _, _, rfl, _, _, rfl, rfl, rfl, ?_⟩
      show tOp _ (tVar 1) (tVar 2) _ _ _
      refine ⟨_, rfl, _, rfl, _, _, rfl, rfl, .inl ⟨by omega, by omega⟩, _, sT _ _ eD, ?_, Same.over (s5.trans sT) nD, ?_⟩
      · rw [nums_len, List.length_map, List.length_range, sizeLine_eq]; omega
      · rw [upd_same, List.range_succ, List.map_append]
        unfold nums
        rw [List.map_append]
        show _ = some (HO.lst (_ ++ [V.int ((n * b.w n : Nat) : Int)]))
        rw [Int.natCast_mul]; rfl
    · rintro H' ⟨s5, eD⟩
      rw [sl] at eD
      refine ⟨D, _, rfl, SqL.of (by rw [eD, nums_ints]), ?_⟩
      rw [sum_map_cast]
      exact q H' s5
theorem ok_gs_spread {f : Addr} {fd : FuncData} (F : Fun K "gs_spread" "gs_spread" s_gs_spread f fd) (c_LAST_GENERATION : IsI mg "LAST_GENERATION" (3)) (c_OUT_OF_BOUNDS : IsI mg "OUT_OF_BOUNDS" (-22)) (f_generation : Has P w K mg base "generation" ["descent", "n"] 3 (spGen C)) (b_len : mg "len" = none) (c_NOTHING_TO_TELL : IsI mg "NOTHING_TO_TELL" (-33)) (b_min : mg "min" = none) (b_max : mg "max" = none) (f_with_sign : Has P w K mg base "with_sign" ["number"] 1 (spSign)) :
    FnOk P w K mg base CX0 4 f fd ["descent", "given"] (spQ K C 1 fun xs => .spread (xs.getD 0 0)) := by
  refine F.ok sc_gs_spread (fun vs H Q E h => ?_) (fun cdv A outer s H vs Q E hr h => ?_)
  · obtain ⟨a, dx, ls, lf, g, rv, fs, b, xs, rfl, _⟩ := h
    rfl
  · obtain ⟨a, dx, ls, lf, g, rv, fs, b, xs, rfl, O, W, hg, hl, q⟩ := h
    obtain ⟨n, rfl⟩ := one_of hl
    refine ⟨_, (pss_cons (ps_set (i := 2) sc_gs_spread.nd rfl (.inl rfl) (pe_ix ix_list (pv 1) pe_int (fun _ _ => rfl)))
      (pss_cons (ps_if (pt_cmpR op_gt (pv 2) (pe_ci c_LAST_GENERATION) (nomark _)) (pss_one (ps_ret (pe_lst (pa_cons (pe_ci c_OUT_OF_BOUNDS) pa_nil)))) pss_nil)
      (pss_cons (ps_set (i := 3) sc_gs_spread.nd rfl (.inl rfl) (pe_has f_generation (hr.mono (by decide)) (pa_cons (pv 0) (pa_cons (pv 2) pa_nil))))
      (pss_cons (ps_if (pt_cmpR op_eq (pe_callB call_lenD (by rfl) b_len PySem.boot_len (pa_cons (pv 3) pa_nil)) pe_int (nomark _)) (pss_one (ps_ret (pe_lst (pa_cons (pe_ci c_NOTHING_TO_TELL) pa_nil)))) pss_nil)
      (pss_cons (ps_set (i := 4) sc_gs_spread.nd rfl (.inl rfl) (pe_minKeys rfl rfl b_min (pv 3)))
      (pss_cons (ps_set (i := 5) sc_gs_spread.nd rfl (.inl rfl) (pe_maxKeys rfl rfl b_max (pv 3)))
      (pss_one (ps_ret (pe_op op_cat (pe_op op_cat (pe_lst (pa_cons (pe_op op_sub (pv 5) (pv 4)) pa_nil)) (pe_has f_with_sign (hr.mono (by decide)) (pa_cons (pv 4) pa_nil))) (pe_has f_with_sign (hr.mono (by decide)) (pa_cons (pv 5) pa_nil))))))))))), ?_⟩
    refine ⟨_, rfl, g, _, 0, _, rfl, rfl, hg, atI_nat (j := 0) rfl, _, rfl, _, _, rfl, rfl, _, rfl, ?_⟩
    have hif : (Km497.act ⟨b, [], []⟩ (.spread n)).2 = if Km497.DEEP < n then Km497.only (-22) else match Km497.here (b.gen n) with
      | [] => Km497.only (-33)
      | i :: l => ⟨Km497.n2i (l.getLastD i - i), Km497.signed (Km497.ageOf i) ++ Km497.signed (Km497.ageOf (l.getLastD i))⟩ := rfl
    refine ite2 (fun c => ?_) (fun c => ?_)
    · have c : (3 : Int) < n := of_decide_eq_true c
      refine ⟨(by show 1 ≤ sizeLine; decide), q.new (Same.refl _) ?_⟩
      show _ = (Km497Neutral.told (Km497.act ⟨b, [], []⟩ (.spread n)).2).map V.int
      rw [hif, if_pos (show Km497.DEEP < n by show 3 < n; omega)]; rfl
    have c : ¬ (3 : Int) < n := fun z => c (decide_eq_true z)
    rw [if_neg (show ¬ Km497.DEEP < n by show ¬ 3 < n; omega)] at hif
    refine ⟨_, rfl, _, rfl, a, dx, ls, lf, rv, fs, b, n, rfl, by omega, O, W.sl, W.s9, fun H1 p1 s1 n1 e1 => ?_⟩
    have R := gen_rep W.g1 W.g2 O.fl O.fe n (by omega)
    refine ⟨_, rfl, p1, _, rfl, e1, rfl, _, rfl, ?_⟩
    refine ite2 (fun c2 => ?_) (fun c2 => ?_)
    · have c2 : (((enc (genD b fs n)).length : Nat) : Int) = 0 := V.int.inj (of_decide_eq_true c2)
      have e0 : genD b fs n = [] := List.eq_nil_of_length_eq_zero (by rw [enc_len] at c2; omega)
      refine ⟨(by show 1 ≤ sizeLine; decide), q.new s1 ?_⟩
      show _ = (Km497Neutral.told (Km497.act ⟨b, [], []⟩ (.spread n)).2).map V.int
      rw [hif, R.here_nil.mpr e0]; rfl
    have c2 : ¬ genD b fs n = [] := fun z => c2 (decide_eq_true (by rw [z]; rfl))
    refine ⟨_, rfl, p1, _, rfl, e1, c2, fun lo lo1 lo2 => ?_⟩
    refine ⟨_, rfl, p1, _, rfl, e1, c2, fun hi hi1 hi2 => ?_⟩
    obtain ⟨i, l, eh, el, eg⟩ := R.spread lo1 lo2 hi1 hi2
    have le : lo ≤ hi := lo2 hi hi1
    rw [eh] at hif
    refine ⟨_, rfl, _, rfl, _, _, rfl, rfl, (by show 1 ≤ sizeLine; decide), fun p2 n2 => ?_⟩
    have s2 := same_upd (o := .lst [.int (hi - lo)]) n2
    refine ⟨_, rfl, lo, rfl, fun H3 p3 s3 n3 e3 => ?_⟩
    refine ⟨p2, p3, _, _, rfl, rfl, s3 _ _ upd_same, e3, (by show 3 ≤ sizeLine; decide), fun p4 n4 => ?_⟩
    have s4 := same_upd (o := .lst ([V.int (hi - lo)] ++ (signI lo).map V.int)) n4
    refine ⟨_, rfl, hi, rfl, fun H5 p5 s5 n5 e5 => ?_⟩
    refine ⟨p4, p5, _, _, rfl, rfl, s5 _ _ upd_same, e5, (by show 5 ≤ sizeLine; decide), ?_⟩
    refine q.new ((((s1.trans s2).trans s3).trans s4).trans s5) ?_
    show _ = (Km497Neutral.told (Km497.act ⟨b, [], []⟩ (.spread n)).2).map V.int
    rw [hif]
    show _ = (((l.getLastD i - i : Nat) : Int) :: Km497Neutral.nums (Km497.signed ((i : Int) - 60) ++ Km497.signed (((l.getLastD i : Nat) : Int) - 60))).map V.int
    rw [nums_app, nums_signed, nums_signed, el, eg, show ((l.getLastD i - i : Nat) : Int) = hi - lo by omega, List.map_cons, List.map_append]
    rfl
theorem ok_gs_most {f : Addr} {fd : FuncData} (F : Fun K "gs_most" "gs_most" s_gs_most f fd) (c_LAST_GENERATION : IsI mg "LAST_GENERATION" (3)) (c_OUT_OF_BOUNDS : IsI mg "OUT_OF_BOUNDS" (-22)) (f_generation : Has P w K mg base "generation" ["descent", "n"] 3 (spGen C)) (b_len : mg "len" = none) (c_NOTHING_TO_TELL : IsI mg "NOTHING_TO_TELL" (-33)) (b_max : mg "max" = none) (b_min : mg "min" = none) (f_with_sign : Has P w K mg base "with_sign" ["number"] 1 (spSign)) :
    FnOk P w K mg base CX0 4 f fd ["descent", "given"] (spQ K C 1 fun xs => .most (xs.getD 0 0)) := by
  refine F.ok sc_gs_most (fun vs H Q E h => ?_) (fun cdv A outer s H vs Q E hr h => ?_)
  · obtain ⟨a, dx, ls, lf, g, rv, fs, b, xs, rfl, _⟩ := h
    rfl
  · obtain ⟨a, dx, ls, lf, g, rv, fs, b, xs, rfl, O, W, hg, hl, q⟩ := h
    obtain ⟨n, rfl⟩ := one_of hl
    refine ⟨_, (pss_cons (ps_set (i := 2) sc_gs_most.nd rfl (.inl rfl) (pe_ix ix_list (pv 1) pe_int (fun _ _ => rfl)))
      (pss_cons (ps_if (pt_cmpR op_gt (pv 2) (pe_ci c_LAST_GENERATION) (nomark _)) (pss_one (ps_ret (pe_lst (pa_cons (pe_ci c_OUT_OF_BOUNDS) pa_nil)))) pss_nil)
      (pss_cons (ps_set (i := 3) sc_gs_most.nd rfl (.inl rfl) (pe_has f_generation (hr.mono (by decide)) (pa_cons (pv 0) (pa_cons (pv 2) pa_nil))))
      (pss_cons (ps_if (pt_cmpR op_eq (pe_callB call_lenD (by rfl) b_len PySem.boot_len (pa_cons (pv 3) pa_nil)) pe_int (nomark _)) (pss_one (ps_ret (pe_lst (pa_cons (pe_ci c_NOTHING_TO_TELL) pa_nil)))) pss_nil)
      (pss_cons (ps_set (i := 4) sc_gs_most.nd rfl (.inr rfl) (pe_maxVals rfl rfl b_max (pv 3)))
      (pss_cons (ps_set (i := 5) sc_gs_most.nd rfl (.inl rfl) (pe_callB (cr_min rfl) (by rfl) b_min (by decide +kernel) (pa_cons (pe_lock (pe_lc (own := [("age", 6), ("men", 7)]) (g := gTup K 2 (gCons (gName 6) (gCons (gName 7) (gNil)))) rfl sc_gs_most.nd (pi_items (pv 3)) (blkOk_by (own := [("age", 6), ("men", 7)]) (N := ["descent", "given", "n", "ages", "most", "least", "age", "men"]) (sc := defScope s_gs_most) (by decide +kernel)) (fun _ _ _ _ _ => by exact (pg_tup rfl (pgs_cons (pg_name (i := 6) sc_gs_most.nd rfl (.inl rfl)) (pgs_cons (pg_name (i := 7) sc_gs_most.nd rfl (.inl rfl)) pgs_nil)))) (fun _ _ _ _ _ => by exact pts_one (pt_cmpR op_eq (pv 7) (pv 4) (nomark _))) (fun _ _ _ _ _ => by exact (pv 6)))) pa_nil)))
      (pss_one (ps_ret (pe_op op_cat (pe_op op_cat (pe_lst (pa_cons pe_int pa_nil)) (pe_has f_with_sign (hr.mono (by decide)) (pa_cons (pv 5) pa_nil))) (pe_lst (pa_cons (pv 4) pa_nil))))))))))), ?_⟩
    refine ⟨_, rfl, g, _, 0, _, rfl, rfl, hg, atI_nat (j := 0) rfl, _, rfl, _, _, rfl, rfl, _, rfl, ?_⟩
    have hif : (Km497.act ⟨b, [], []⟩ (.most n)).2 = if Km497.DEEP < n then Km497.only (-22) else match Km497.peak (b.gen n) with
      | none => Km497.only (-33)
      | some i => ⟨0, Km497.signed (Km497.ageOf i) ++ [(b.gen n).getD i 0]⟩ := rfl
    refine ite2 (fun c => ?_) (fun c => ?_)
    · have c : (3 : Int) < n := of_decide_eq_true c
      refine ⟨(by show 1 ≤ sizeLine; decide), q.new (Same.refl _) ?_⟩
      show _ = (Km497Neutral.told (Km497.act ⟨b, [], []⟩ (.most n)).2).map V.int
      rw [hif, if_pos (show Km497.DEEP < n by show 3 < n; omega)]; rfl
    have c : ¬ (3 : Int) < n := fun z => c (decide_eq_true z)
    rw [if_neg (show ¬ Km497.DEEP < n by show ¬ 3 < n; omega)] at hif
    refine ⟨_, rfl, _, rfl, a, dx, ls, lf, rv, fs, b, n, rfl, by omega, O, W.sl, W.s9, fun H1 p1 s1 n1 e1 => ?_⟩
    have R := gen_rep W.g1 W.g2 O.fl O.fe n (by omega)
    have dl := gen_small b fs n (by omega)
    refine ⟨_, rfl, p1, _, rfl, e1, rfl, _, rfl, ?_⟩
    refine ite2 (fun c2 => ?_) (fun c2 => ?_)
    · have c2 : (((enc (genD b fs n)).length : Nat) : Int) = 0 := V.int.inj (of_decide_eq_true c2)
      have e0 : genD b fs n = [] := List.eq_nil_of_length_eq_zero (by rw [enc_len] at c2; omega)
      refine ⟨(by show 1 ≤ sizeLine; decide), q.new s1 ?_⟩
      show _ = (Km497Neutral.told (Km497.act ⟨b, [], []⟩ (.most n)).2).map V.int
      rw [hif, R.peak_none e0]; rfl
    have c2 : ¬ genD b fs n = [] := fun z => c2 (decide_eq_true (by rw [z]; rfl))
    refine ⟨_, rfl, p1, _, rfl, e1, c2, fun m m1 m2 => ?_⟩
    refine lc_items (f := p1) (fun q => decide (V.int q.2 = V.int m)) (fun q => q.1) rfl e1 dl (fun _ => rfl) (fun q _ H' R' r => ⟨_, rfl, _, rfl, rfl, _, rfl, r⟩) (fun q _ H' R' r => ⟨_, rfl, r⟩) (fun D H2 nD s2 eD => ?_)
    obtain ⟨⟨e0, m0⟩, hq, em⟩ := List.mem_map.mp m1
    have em : m0 = m := em
    subst em
    have hin : ∀ y : Int, y ∈ ((genD b fs n).filter fun q => decide (V.int q.2 = V.int m0)).map (fun q => q.1) ↔ (y, m0) ∈ genD b fs n := fun y => by
      rw [List.mem_map]
      constructor
      · rintro ⟨⟨y1, y2⟩, h1, h2⟩
        obtain ⟨h3, h4⟩ := List.mem_filter.mp h1
        have h4 : y2 = m0 := V.int.inj (of_decide_eq_true h4)
        have h2 : y1 = y := h2
        rw [← h4, ← h2]; exact h3
      · intro h1
        exact ⟨(y, m0), List.mem_filter.mpr ⟨h1, decide_eq_true rfl⟩, rfl⟩
    refine ⟨D, _, rfl, SqL.of eD, List.length_pos_of_mem ((hin e0).mpr hq), fun e he1 he2 => ?_⟩
    obtain ⟨pk, pv, _, _⟩ := R.peak ((hin e).mp he1) (fun p hp => m2 _ (List.mem_map.mpr ⟨p, hp, rfl⟩)) (fun p hp ep => he2 _ ((hin p.1).mpr (by rw [← ep]; exact hp)))
    rw [pk] at hif
    refine ⟨(by show 1 ≤ sizeLine; decide), fun p2 n2 => ?_⟩
    have s3 := same_upd (o := .lst [.int 0]) n2
    refine ⟨_, rfl, e, rfl, fun H4 p4 s4 n4 e4 => ?_⟩
    refine ⟨p2, p4, _, _, rfl, rfl, s4 _ _ upd_same, e4, (by show 3 ≤ sizeLine; decide), fun p5 n5 => ?_⟩
    have s5 := same_upd (o := .lst ([V.int 0] ++ (signI e).map V.int)) n5
    refine ⟨_, rfl, (by show 1 ≤ sizeLine; decide), fun p6 n6 => ?_⟩
    have s6 := same_upd (o := .lst [.int m0]) n6
    refine ⟨p5, p6, _, _, rfl, rfl, s6 _ _ upd_same, upd_same, (by show 4 ≤ sizeLine; decide), ?_⟩
    refine q.new (((((s1.trans s2).trans s3).trans s4).trans s5).trans s6) ?_
    show _ = (Km497Neutral.told (Km497.act ⟨b, [], []⟩ (.most n)).2).map V.int
    rw [hif]
    show _ = ((0 : Int) :: Km497Neutral.nums (Km497.signed ((((e + 60).toNat : Nat) : Int) - 60) ++ [(b.gen n).getD (e + 60).toNat 0])).map V.int
    rw [nums_app, nums_signed, show (((e + 60).toNat : Nat) : Int) - 60 = e by omega]
    show _ = ((0 : Int) :: (signI e ++ [((b.gen n).getD (e + 60).toNat 0 : Int)])).map V.int
    rw [pv, List.map_cons, List.map_append]
    rfl
theorem ok_gs_lost {f : Addr} {fd : FuncData} (F : Fun K "gs_lost" "gs_lost" s_gs_lost f fd) (c_LAST_FATHERS : IsI mg "LAST_FATHERS" (2)) (c_OUT_OF_BOUNDS : IsI mg "OUT_OF_BOUNDS" (-22)) (f_generation : Has P w K mg base "generation" ["descent", "n"] 3 (spGen C)) (f_lost_sons : Has P w K mg base "lost_sons" ["descent", "fathers"] 2 (spLostG C)) (b_sum : mg "sum" = none) (f_next_generation : Has P w K mg base "next_generation" ["descent", "fathers"] 2 (spNextG C)) :
    FnOk P w K mg base CX0 4 f fd ["descent", "given"] (spQ K C 1 fun xs => .lost (xs.getD 0 0)) := by
  refine F.ok sc_gs_lost (fun vs H Q E h => ?_) (fun cdv A outer s H vs Q E hr h => ?_)
  · obtain ⟨a, dx, ls, lf, g, rv, fs, b, xs, rfl, _⟩ := h
    rfl
  · obtain ⟨a, dx, ls, lf, g, rv, fs, b, xs, rfl, O, W, hg, hl, q⟩ := h
    obtain ⟨n, rfl⟩ := one_of hl
    refine ⟨_, (pss_cons (ps_set (i := 2) sc_gs_lost.nd rfl (.inl rfl) (pe_ix ix_list (pv 1) pe_int (fun _ _ => rfl)))
      (pss_cons (ps_if (pt_cmpR op_gt (pv 2) (pe_ci c_LAST_FATHERS) (nomark _)) (pss_one (ps_ret (pe_lst (pa_cons (pe_ci c_OUT_OF_BOUNDS) pa_nil)))) pss_nil)
      (pss_cons (ps_set (i := 3) sc_gs_lost.nd rfl (.inl rfl) (pe_has f_generation (hr.mono (by decide)) (pa_cons (pv 0) (pa_cons (pv 2) pa_nil))))
      (pss_one (ps_ret (pe_lst (pa_cons pe_int (pa_cons (pe_has f_lost_sons (hr.mono (by decide)) (pa_cons (pv 0) (pa_cons (pv 3) pa_nil))) (pa_cons (pe_sumVals rfl rfl b_sum (pe_has f_next_generation (hr.mono (by decide)) (pa_cons (pv 0) (pa_cons (pv 3) pa_nil)))) pa_nil))))))))), ?_⟩
    refine ⟨_, rfl, g, _, 0, _, rfl, rfl, hg, atI_nat (j := 0) rfl, _, rfl, _, _, rfl, rfl, _, rfl, ?_⟩
    have hif : (Km497.act ⟨b, [], []⟩ (.lost n)).2 = if Km497.DEEP ≤ n then Km497.only (-22) else ⟨0, [b.lost (b.gen n), b.total (n + 1)]⟩ := rfl
    refine ite2 (fun c => ?_) (fun c => ?_)
    · have c : (2 : Int) < n := of_decide_eq_true c
      refine ⟨(by show 1 ≤ sizeLine; decide), q.new (Same.refl _) ?_⟩
      show _ = (Km497Neutral.told (Km497.act ⟨b, [], []⟩ (.lost n)).2).map V.int
      rw [hif, if_pos (show Km497.DEEP ≤ n by show 3 ≤ n; omega)]; rfl
    have c : ¬ (2 : Int) < n := fun z => c (decide_eq_true z)
    refine ⟨_, rfl, _, rfl, a, dx, ls, lf, rv, fs, b, n, rfl, by omega, O, W.sl, W.s9, fun H1 p1 s1 n1 e1 => ?_⟩
    have R := gen_rep W.g1 W.g2 O.fl O.fe n (by omega)
    have R' := gen_rep W.g1 W.g2 O.fl O.fe (n + 1) (by omega)
    have hlen : (genD b fs n).length ≤ 100000 := by
      have h1 := gen_len b fs n
      have h2 : 13 ^ n ≤ 13 ^ 2 := Nat.pow_le_pow_right (by decide) (by omega)
      omega
    refine ⟨_, rfl, _, rfl, a, dx, ls, lf, p1, rv, fs, b, genD b fs n, rfl, O.same s1, W.sl, W.s9, e1, fun H2 s2 => ?_⟩
    refine ⟨_, rfl, _, rfl, a, dx, ls, lf, p1, rv, fs, b, genD b fs n, rfl, (O.same s1).same s2, W.sl, W.s9, s2 _ _ e1, hlen, fun H3 p3 s3 n3 e3 => ?_⟩
    refine ⟨p3, _, rfl, e3, (by show 3 ≤ sizeLine; decide), ?_⟩
    rw [R.lost b, show nextD b [] (genD b fs n) = genD b fs (n + 1) from rfl, R'.total]
    refine q.new ((s1.trans s2).trans s3) ?_
    show _ = (Km497Neutral.told (Km497.act ⟨b, [], []⟩ (.lost n)).2).map V.int
    rw [hif, if_neg (show ¬ Km497.DEEP ≤ n by show ¬ 3 ≤ n; omega)]
    rfl
theorem ok_gs_balance {f : Addr} {fd : FuncData} (F : Fun K "gs_balance" "gs_balance" s_gs_balance f fd) (T : TxtC K C) (b_sum : mg "sum" = none) (f_with_sign : Has P w K mg base "with_sign" ["number"] 1 (spSign)) (f_ages_at_births : Has P w K mg base "ages_at_births" ["descent"] 1 (spBirths C)) :
    FnOk P w K mg base CX0 2 f fd ["descent", "given"] (spQ K C 0 fun _ => .balance) := by
  refine F.ok sc_gs_balance (fun vs H Q E h => ?_) (fun cdv A outer s H vs Q E hr h => ?_)
  · obtain ⟨a, dx, ls, lf, g, rv, fs, b, xs, rfl, _⟩ := h
    rfl
  · obtain ⟨a, dx, ls, lf, g, rv, fs, b, xs, rfl, O, W, hg, hl, q⟩ := h
    refine ⟨_, (pss_cons (ps_set (i := 2) sc_gs_balance.nd rfl (.inl rfl) (pe_callB (cr_sum rfl) (by rfl) b_sum (by decide +kernel) (pa_cons (pe_fld (pv 0) rfl) pa_nil)))
      (pss_one (ps_ret (pe_op op_cat (pe_lst (pa_cons (pv 2) pa_nil)) (pe_has f_with_sign (hr.mono (by decide)) (pa_cons (pe_op op_sub (pe_op op_mul (pe_fld (pv 0) rfl) (pv 2)) (pe_has f_ages_at_births (hr.mono (by decide)) (pa_cons (pv 0) pa_nil))) pa_nil)))))), ?_⟩
    have hif : (Km497.act ⟨b, [], []⟩ .balance).2 = ⟨Km497.n2i b.each, Km497.signed ((b.gap * b.each : Nat) - (b.fathers : Int))⟩ := rfl
    refine ⟨_, rfl, a, C, dx.d, _, _, rfl, O.o, T.cl, T.nS, flds_sons _ _ _ _ _, ls, b.sons.map fun (n : Nat) => (n : Int), rfl, SqL.of (by rw [← nums_ints]; exact O.s), ?_⟩
    rw [sum_map_cast]
    refine ⟨_, rfl, (by show 1 ≤ sizeLine; decide), fun p1 n1 => ?_⟩
    have s1 := same_upd (o := .lst [.int (Km497.sum b.sons : Int)]) n1
    have O1 := O.same s1
    have g2 := W.g2
    refine ⟨_, rfl, a, C, dx.d, _, _, rfl, O1.o, T.cl, T.nG, flds_gap _ _ _ _ _, _, rfl, _, _, rfl, rfl, .inl ⟨by omega, by omega⟩, ?_⟩
    refine ⟨_, rfl, a, dx, ls, lf, rv, fs, b, rfl, O1, W.sl, fun H2 s2 => ?_⟩
    refine ⟨_, _, rfl, rfl, _, rfl, fun H3 p3 s3 n3 e3 => ?_⟩
    refine ⟨p1, p3, _, _, rfl, rfl, s3 _ _ (s2 _ _ upd_same), e3, (by show 3 ≤ sizeLine; decide), ?_⟩
    refine q.new ((s1.trans s2).trans s3) ?_
    show _ = (Km497Neutral.told (Km497.act ⟨b, [], []⟩ .balance).2).map V.int
    rw [hif]
    show _ = ((b.each : Int) :: Km497Neutral.nums (Km497.signed ((b.gap * b.each : Nat) - (b.fathers : Int)))).map V.int
    rw [nums_signed, Int.natCast_mul]
    rfl
theorem ok_gs_each {f : Addr} {fd : FuncData} (F : Fun K "gs_each" "gs_each" s_gs_each f fd) (T : TxtC K C) (b_sum : mg "sum" = none) (c_NOTHING_TO_TELL : IsI mg "NOTHING_TO_TELL" (-33)) (f_ratio : Has P w K mg base "ratio" ["above", "below"] 2 (spRatio)) (f_ages_at_births : Has P w K mg base "ages_at_births" ["descent"] 1 (spBirths C)) :
    FnOk P w K mg base CX0 3 f fd ["descent", "given"] (spQ K C 0 fun _ => .each) := by
  refine F.ok sc_gs_each (fun vs H Q E h => ?_) (fun cdv A outer s H vs Q E hr h => ?_)
  · obtain ⟨a, dx, ls, lf, g, rv, fs, b, xs, rfl, _⟩ := h
    rfl
  · obtain ⟨a, dx, ls, lf, g, rv, fs, b, xs, rfl, O, W, hg, hl, q⟩ := h
    refine ⟨_, (pss_cons (ps_set (i := 2) sc_gs_each.nd rfl (.inl rfl) (pe_callB (cr_sum rfl) (by rfl) b_sum (by decide +kernel) (pa_cons (pe_fld (pv 0) rfl) pa_nil)))
      (pss_cons (ps_if (pt_cmpR op_eq (pv 2) pe_int (nomark _)) (pss_one (ps_ret (pe_lst (pa_cons (pe_ci c_NOTHING_TO_TELL) pa_nil)))) pss_nil)
      (pss_one (ps_ret (pe_op op_cat (pe_lst (pa_cons (pv 2) pa_nil)) (pe_has f_ratio (hr.mono (by decide)) (pa_cons (pe_has f_ages_at_births (hr.mono (by decide)) (pa_cons (pv 0) pa_nil)) (pa_cons (pv 2) pa_nil)))))))), ?_⟩
    have hif : (Km497.act ⟨b, [], []⟩ .each).2 = if b.each = 0 then Km497.only (-33) else ⟨Km497.n2i b.each, Km497.over (b.fathers : Int) b.each⟩ := rfl
    refine ⟨_, rfl, a, C, dx.d, _, _, rfl, O.o, T.cl, T.nS, flds_sons _ _ _ _ _, ls, b.sons.map fun (n : Nat) => (n : Int), rfl, SqL.of (by rw [← nums_ints]; exact O.s), ?_⟩
    rw [sum_map_cast]
    refine ⟨_, rfl, rfl, _, rfl, ?_⟩
    refine ite2 (fun c => ?_) (fun c => ?_)
    · have c : (Km497.sum b.sons : Int) = 0 := V.int.inj (of_decide_eq_true c)
      refine ⟨(by show 1 ≤ sizeLine; decide), q.new (Same.refl _) ?_⟩
      show _ = (Km497Neutral.told (Km497.act ⟨b, [], []⟩ .each).2).map V.int
      rw [hif, if_pos (show b.each = 0 by show Km497.sum b.sons = 0; omega)]; rfl
    have c : ¬ Km497.sum b.sons = 0 := fun z => c (decide_eq_true (by rw [z]; rfl))
    refine ⟨_, rfl, (by show 1 ≤ sizeLine; decide), fun p1 n1 => ?_⟩
    have s1 := same_upd (o := .lst [.int (Km497.sum b.sons : Int)]) n1
    have s40 := W.s40
    refine ⟨_, rfl, a, dx, ls, lf, rv, fs, b, rfl, O.same s1, W.sl, fun H2 s2 => ?_⟩
    refine ⟨_, rfl, _, Km497.sum b.sons, rfl, by omega, by omega, fun H3 p3 s3 n3 e3 => ?_⟩
    refine ⟨p1, p3, _, _, rfl, rfl, s3 _ _ (s2 _ _ upd_same), e3, ?_, ?_⟩
    · rw [List.length_map, List.length_map, over_is _ _ (by omega)]
      show 1 + 3 ≤ sizeLine
      decide
    refine q.new ((s1.trans s2).trans s3) ?_
    show _ = (Km497Neutral.told (Km497.act ⟨b, [], []⟩ .each).2).map V.int
    rw [hif, if_neg (show ¬ b.each = 0 from c)]
    rfl
theorem ok_gs_told_sons {f : Addr} {fd : FuncData} (F : Fun K "gs_told_sons" "gs_told_sons" s_gs_told_sons f fd) (T : TxtC K C) (b_len : mg "len" = none) :
    FnOk P w K mg base CX0 1 f fd ["descent", "given"] (spQ K C 0 fun _ => .toldSons) := by
  refine F.ok sc_gs_told_sons (fun vs H Q E h => ?_) (fun cdv A outer s H vs Q E hr h => ?_)
  · obtain ⟨a, dx, ls, lf, g, rv, fs, b, xs, rfl, _⟩ := h
    rfl
  · obtain ⟨a, dx, ls, lf, g, rv, fs, b, xs, rfl, O, W, hg, hl, q⟩ := h
    refine ⟨_, (pss_one (ps_ret (pe_op op_cat (pe_lst (pa_cons (pe_callB call_len_seq (by rfl) b_len PySem.boot_len (pa_cons (pe_fld (pv 0) rfl) pa_nil)) pa_nil)) (pe_fld (pv 0) rfl)))), ?_⟩
    refine ⟨_, rfl, a, C, dx.d, _, _, rfl, O.o, T.cl, T.nS, flds_sons _ _ _ _ _, ls, _, rfl, .inl (SqL.of O.s), (by show 1 ≤ sizeLine; decide), fun p1 n1 => ?_⟩
    rw [nums_len, W.sl]
    have s1 := same_upd (o := .lst [.int ((13 : Nat) : Int)]) n1
    have O1 := O.same s1
    refine ⟨_, rfl, a, C, dx.d, _, _, rfl, O1.o, T.cl, T.nS, flds_sons _ _ _ _ _, p1, ls, _, _, rfl, rfl, upd_same, O1.s, (by rw [nums_len, W.sl]; show 1 + 13 ≤ sizeLine; decide), ?_⟩
    refine q.new s1 ?_
    show _ = ((13 : Int) :: b.sons.map fun (n : Nat) => (n : Int)).map V.int
    rw [List.map_cons, ← nums_ints]
    rfl
theorem ok_gs_bounds {f : Addr} {fd : FuncData} (F : Fun K "gs_bounds" "gs_bounds" s_gs_bounds f fd) (T : TxtC K C) (c_NOTHING_TO_TELL : IsI mg "NOTHING_TO_TELL" (-33)) (f_with_sign : Has P w K mg base "with_sign" ["number"] 1 (spSign)) :
    FnOk P w K mg base CX0 2 f fd ["descent", "given"] (spQ K C 0 fun _ => .bounds) := by
  refine F.ok sc_gs_bounds (fun vs H Q E h => ?_) (fun cdv A outer s H vs Q E hr h => ?_)
  · obtain ⟨a, dx, ls, lf, g, rv, fs, b, xs, rfl, _⟩ := h
    rfl
  · obtain ⟨a, dx, ls, lf, g, rv, fs, b, xs, rfl, O, W, hg, hl, q⟩ := h
    refine ⟨_, (pss_cons (ps_if (pt_cmpR op_isN (pe_fld (pv 0) rfl) pe_non (nomark _)) (pss_one (ps_ret (pe_lst (pa_cons (pe_ci c_NOTHING_TO_TELL) pa_nil)))) pss_nil)
      (pss_cons (ps_set (i := 2) sc_gs_bounds.nd rfl (.inl rfl) (pe_ix ix_tup (pe_fld (pv 0) rfl) pe_int (fun _ _ => rfl)))
      (pss_cons (ps_set (i := 3) sc_gs_bounds.nd rfl (.inl rfl) (pe_ix ix_tup (pe_fld (pv 0) rfl) pe_int (fun _ _ => rfl)))
      (pss_one (ps_ret (pe_op op_cat (pe_op op_cat (pe_lst (pa_cons (pe_op op_sub (pv 3) (pv 2)) pa_nil)) (pe_has f_with_sign (hr.mono (by decide)) (pa_cons (pe_op op_sub (pe_fld (pv 0) rfl) (pe_op op_sub (pv 3) pe_int)) pa_nil))) (pe_has f_with_sign (hr.mono (by decide)) (pa_cons (pe_op op_sub (pe_fld (pv 0) rfl) (pv 2)) pa_nil)))))))), ?_⟩
    have hif : (Km497.act ⟨b, [], []⟩ .bounds).2 = match b.rule with
      | none => Km497.only (-33)
      | some r => ⟨Km497.n2i (r.2 - r.1), Km497.signed ((b.gap : Int) + 1 - (r.2 : Int)) ++ Km497.signed ((b.gap : Int) - (r.1 : Int))⟩ := rfl
    refine ⟨_, rfl, a, C, dx.d, _, _, rfl, O.o, T.cl, T.nR, flds_rule _ _ _ _ _, rfl, _, rfl, ?_⟩
    have hR := O.r
    have ru := W.ru
    cases er : b.rule with
    | none =>
      rw [er] at hR hif
      have hR : rv = .non := hR
      rw [hR]
      refine iteT ⟨(by show 1 ≤ sizeLine; decide), q.new (Same.refl _) ?_⟩
      show _ = (Km497Neutral.told (Km497.act ⟨b, [], []⟩ .bounds).2).map V.int
      rw [hif]; rfl
    | some r =>
      rw [er] at hR hif
      obtain ⟨t, e1, ht⟩ := hR
      subst e1
      have ru := ru r er
      refine iteF ?_
      refine ⟨_, rfl, a, C, dx.d, _, _, rfl, O.o, T.cl, T.nR, flds_rule _ _ _ _ _, t, _, 0, _, rfl, rfl, SqT.of ht, atI_nat (j := 0) rfl, ?_⟩
      refine ⟨_, rfl, a, C, dx.d, _, _, rfl, O.o, T.cl, T.nR, flds_rule _ _ _ _ _, t, _, 1, _, rfl, rfl, SqT.of ht, atI_nat (j := 1) rfl, ?_⟩
      refine ⟨_, rfl, _, rfl, _, _, rfl, rfl, (by show 1 ≤ sizeLine; decide), fun p1 n1 => ?_⟩
      have s1 := same_upd (o := .lst [.int ((r.2 : Int) - (r.1 : Int))]) n1
      have O1 := O.same s1
      refine ⟨_, rfl, a, C, dx.d, _, _, rfl, O1.o, T.cl, T.nG, flds_gap _ _ _ _ _, _, rfl, _, _, rfl, rfl, _, _, rfl, rfl, _, rfl, fun H2 p2 s2 n2 e2 => ?_⟩
      refine ⟨p1, p2, _, _, rfl, rfl, s2 _ _ upd_same, e2, (by show 3 ≤ sizeLine; decide), fun p3 n3 => ?_⟩
      have s3 := same_upd (o := .lst ([V.int ((r.2 : Int) - (r.1 : Int))] ++ (signI ((b.gap : Int) - ((r.2 : Int) - 1))).map V.int)) n3
      have O3 := (O1.same s2).same s3
      refine ⟨_, rfl, a, C, dx.d, _, _, rfl, O3.o, T.cl, T.nG, flds_gap _ _ _ _ _, _, rfl, _, _, rfl, rfl, _, rfl, fun H4 p4 s4 n4 e4 => ?_⟩
      refine ⟨p3, p4, _, _, rfl, rfl, s4 _ _ upd_same, e4, (by show 5 ≤ sizeLine; decide), ?_⟩
      refine q.new (((s1.trans s2).trans s3).trans s4) ?_
      show _ = (Km497Neutral.told (Km497.act ⟨b, [], []⟩ .bounds).2).map V.int
      rw [hif]
      show _ = (((r.2 - r.1 : Nat) : Int) :: Km497Neutral.nums (Km497.signed ((b.gap : Int) + 1 - (r.2 : Int)) ++ Km497.signed ((b.gap : Int) - (r.1 : Int)))).map V.int
      rw [nums_app, nums_signed, nums_signed, show ((r.2 - r.1 : Nat) : Int) = (r.2 : Int) - (r.1 : Int) by omega, show (b.gap : Int) + 1 - (r.2 : Int) = (b.gap : Int) - ((r.2 : Int) - 1) by omega, List.map_cons, List.map_append]
      rfl
end
end Oos
namespace Oos
open PySem PySem.Spec PyProof.Rows L2
open Km497 (Book Desk)
/-- a call that changes nothing, as the list of calls sees it -/
theorem q_call {C : Addr} {K : PySem.W.Frag} {j len : Nat} {mk : List Nat → Km497.Call} (ha : arity j = len) (hm : ∀ xs : List Nat, mkCall j xs = mk xs)
    (hq : ∀ (d : Desk) (xs : List Nat), Km497.act d (mk xs) = (d, (Km497.act ⟨d.now, [], []⟩ (mk xs)).2)) (hs : ∀ xs : List Nat, Km497Neutral.isStart (mk xs) = false) :
    ∀ vs H Q E, spCall (RP C) K j vs H Q E → spQ K C len mk vs H Q E := by
  rintro vs H Q E ⟨a, g, s, F, xs, rfl, ⟨z, d, O, rfl, hs'⟩, hg, nF, hl, hne, q⟩
  obtain ⟨d', rfl⟩ := started (by rw [hm]; exact hs xs) hne
  obtain ⟨rfl, W⟩ := hs'
  refine ⟨a, z.x, z.ls, z.lf, g, z.rv, z.fs, d.now, xs, rfl, O.ob, W.now, SqL.of hg, hl.trans ha, fun H' p sm np ep => ?_⟩
  have e : stepC (some d) (mkCall j xs) = (some d, tell d.now (mk xs)) := by
    rw [hm]
    show (some (Km497.act d (mk xs)).1, Km497Neutral.told (Km497.act d (mk xs)).2) = _
    rw [hq]; rfl
  have q : Goes C H a (own a z) (stepC (some d) (mkCall j xs)) Q := q
  rw [e] at q
  exact q H' p (own a z) ⟨z, d, O.same sm, rfl, rfl, W⟩ (fun b o h _ => sm _ _ h) (fun b hb => .inl hb) (O.notOwn np) np ep
theorem all_mk {P : Program} {w : World} {K : PySem.W.Frag} {h : Heap} {mg : Str → Option Value} {fa : Addr}
    {C : Addr}
    {ad_Descent_begin : Addr}
    {oc_Descent_begin kV_Descent_begin dc_Descent_begin pm_Descent_begin cd_Descent_begin ct_Descent_begin : Value}
    {od_Descent_begin an_Descent_begin : Option Addr}
    {sl_Descent_begin : Array (Option Value)}
    {ad_Descent___init__ : Addr}
    {oc_Descent___init__ kV_Descent___init__ dc_Descent___init__ pm_Descent___init__ cd_Descent___init__ ct_Descent___init__ : Value}
    {od_Descent___init__ an_Descent___init__ : Option Addr}
    {sl_Descent___init__ : Array (Option Value)}
    {ad_is_gap : Addr}
    {oc_is_gap kV_is_gap dc_is_gap pm_is_gap cd_is_gap ct_is_gap : Value}
    {od_is_gap an_is_gap : Option Addr}
    {sl_is_gap : Array (Option Value)}
    {ad_gs_start : Addr}
    {oc_gs_start kV_gs_start dc_gs_start pm_gs_start cd_gs_start ct_gs_start : Value}
    {od_gs_start an_gs_start : Option Addr}
    {sl_gs_start : Array (Option Value)}
    {ad_Descent_as_it_is : Addr}
    {oc_Descent_as_it_is kV_Descent_as_it_is dc_Descent_as_it_is pm_Descent_as_it_is cd_Descent_as_it_is ct_Descent_as_it_is : Value}
    {od_Descent_as_it_is an_Descent_as_it_is : Option Addr}
    {sl_Descent_as_it_is : Array (Option Value)}
    {ad_Descent_mark_change : Addr}
    {oc_Descent_mark_change kV_Descent_mark_change dc_Descent_mark_change pm_Descent_mark_change cd_Descent_mark_change ct_Descent_mark_change : Value}
    {od_Descent_mark_change an_Descent_mark_change : Option Addr}
    {sl_Descent_mark_change : Array (Option Value)}
    {ad_gs_sons : Addr}
    {oc_gs_sons kV_gs_sons dc_gs_sons pm_gs_sons cd_gs_sons ct_gs_sons : Value}
    {od_gs_sons an_gs_sons : Option Addr}
    {sl_gs_sons : Array (Option Value)}
    {ad_gs_rule : Addr}
    {oc_gs_rule kV_gs_rule dc_gs_rule pm_gs_rule cd_gs_rule ct_gs_rule : Value}
    {od_gs_rule an_gs_rule : Option Addr}
    {sl_gs_rule : Array (Option Value)}
    {ad_gs_free : Addr}
    {oc_gs_free kV_gs_free dc_gs_free pm_gs_free cd_gs_free ct_gs_free : Value}
    {od_gs_free an_gs_free : Option Addr}
    {sl_gs_free : Array (Option Value)}
    {ad_gs_first : Addr}
    {oc_gs_first kV_gs_first dc_gs_first pm_gs_first cd_gs_first ct_gs_first : Value}
    {od_gs_first an_gs_first : Option Addr}
    {sl_gs_first : Array (Option Value)}
    {ad_gs_gap : Addr}
    {oc_gs_gap kV_gs_gap dc_gs_gap pm_gs_gap cd_gs_gap ct_gs_gap : Value}
    {od_gs_gap an_gs_gap : Option Addr}
    {sl_gs_gap : Array (Option Value)}
    {ad_first_generation : Addr}
    {oc_first_generation kV_first_generation dc_first_generation pm_first_generation cd_first_generation ct_first_generation : Value}
    {od_first_generation an_first_generation : Option Addr}
    {sl_first_generation : Array (Option Value)}
    {ad_is_counted : Addr}
    {oc_is_counted kV_is_counted dc_is_counted pm_is_counted cd_is_counted ct_is_counted : Value}
    {od_is_counted an_is_counted : Option Addr}
    {sl_is_counted : Array (Option Value)}
    {ad_next_generation : Addr}
    {oc_next_generation kV_next_generation dc_next_generation pm_next_generation cd_next_generation ct_next_generation : Value}
    {od_next_generation an_next_generation : Option Addr}
    {sl_next_generation : Array (Option Value)}
    {ad_generation : Addr}
    {oc_generation kV_generation dc_generation pm_generation cd_generation ct_generation : Value}
    {od_generation an_generation : Option Addr}
    {sl_generation : Array (Option Value)}
    {ad_gs_total : Addr}
    {oc_gs_total kV_gs_total dc_gs_total pm_gs_total cd_gs_total ct_gs_total : Value}
    {od_gs_total an_gs_total : Option Addr}
    {sl_gs_total : Array (Option Value)}
    {ad_gs_count : Addr}
    {oc_gs_count kV_gs_count dc_gs_count pm_gs_count cd_gs_count ct_gs_count : Value}
    {od_gs_count an_gs_count : Option Addr}
    {sl_gs_count : Array (Option Value)}
    {ad_gs_younger : Addr}
    {oc_gs_younger kV_gs_younger dc_gs_younger pm_gs_younger cd_gs_younger ct_gs_younger : Value}
    {od_gs_younger an_gs_younger : Option Addr}
    {sl_gs_younger : Array (Option Value)}
    {ad_gs_between : Addr}
    {oc_gs_between kV_gs_between dc_gs_between pm_gs_between cd_gs_between ct_gs_between : Value}
    {od_gs_between an_gs_between : Option Addr}
    {sl_gs_between : Array (Option Value)}
    {ad_common_divisor : Addr}
    {oc_common_divisor kV_common_divisor dc_common_divisor pm_common_divisor cd_common_divisor ct_common_divisor : Value}
    {od_common_divisor an_common_divisor : Option Addr}
    {sl_common_divisor : Array (Option Value)}
    {ad_with_sign : Addr}
    {oc_with_sign kV_with_sign dc_with_sign pm_with_sign cd_with_sign ct_with_sign : Value}
    {od_with_sign an_with_sign : Option Addr}
    {sl_with_sign : Array (Option Value)}
    {ad_ratio : Addr}
    {oc_ratio kV_ratio dc_ratio pm_ratio cd_ratio ct_ratio : Value}
    {od_ratio an_ratio : Option Addr}
    {sl_ratio : Array (Option Value)}
    {ad_gs_mean : Addr}
    {oc_gs_mean kV_gs_mean dc_gs_mean pm_gs_mean cd_gs_mean ct_gs_mean : Value}
    {od_gs_mean an_gs_mean : Option Addr}
    {sl_gs_mean : Array (Option Value)}
    {ad_gs_spread : Addr}
    {oc_gs_spread kV_gs_spread dc_gs_spread pm_gs_spread cd_gs_spread ct_gs_spread : Value}
    {od_gs_spread an_gs_spread : Option Addr}
    {sl_gs_spread : Array (Option Value)}
    {ad_gs_most : Addr}
    {oc_gs_most kV_gs_most dc_gs_most pm_gs_most cd_gs_most ct_gs_most : Value}
    {od_gs_most an_gs_most : Option Addr}
    {sl_gs_most : Array (Option Value)}
    {ad_lost_sons : Addr}
    {oc_lost_sons kV_lost_sons dc_lost_sons pm_lost_sons cd_lost_sons ct_lost_sons : Value}
    {od_lost_sons an_lost_sons : Option Addr}
    {sl_lost_sons : Array (Option Value)}
    {ad_gs_lost : Addr}
    {oc_gs_lost kV_gs_lost dc_gs_lost pm_gs_lost cd_gs_lost ct_gs_lost : Value}
    {od_gs_lost an_gs_lost : Option Addr}
    {sl_gs_lost : Array (Option Value)}
    {ad_ages_at_births : Addr}
    {oc_ages_at_births kV_ages_at_births dc_ages_at_births pm_ages_at_births cd_ages_at_births ct_ages_at_births : Value}
    {od_ages_at_births an_ages_at_births : Option Addr}
    {sl_ages_at_births : Array (Option Value)}
    {ad_gs_balance : Addr}
    {oc_gs_balance kV_gs_balance dc_gs_balance pm_gs_balance cd_gs_balance ct_gs_balance : Value}
    {od_gs_balance an_gs_balance : Option Addr}
    {sl_gs_balance : Array (Option Value)}
    {ad_gs_each : Addr}
    {oc_gs_each kV_gs_each dc_gs_each pm_gs_each cd_gs_each ct_gs_each : Value}
    {od_gs_each an_gs_each : Option Addr}
    {sl_gs_each : Array (Option Value)}
    {ad_gs_told_sons : Addr}
    {oc_gs_told_sons kV_gs_told_sons dc_gs_told_sons pm_gs_told_sons cd_gs_told_sons ct_gs_told_sons : Value}
    {od_gs_told_sons an_gs_told_sons : Option Addr}
    {sl_gs_told_sons : Array (Option Value)}
    {ad_gs_bounds : Addr}
    {oc_gs_bounds kV_gs_bounds dc_gs_bounds pm_gs_bounds cd_gs_bounds ct_gs_bounds : Value}
    {od_gs_bounds an_gs_bounds : Option Addr}
    {sl_gs_bounds : Array (Option Value)}
    {ad_Descent_put_back : Addr}
    {oc_Descent_put_back kV_Descent_put_back dc_Descent_put_back pm_Descent_put_back cd_Descent_put_back ct_Descent_put_back : Value}
    {od_Descent_put_back an_Descent_put_back : Option Addr}
    {sl_Descent_put_back : Array (Option Value)}
    {ad_Descent_take_back : Addr}
    {oc_Descent_take_back kV_Descent_take_back dc_Descent_take_back pm_Descent_take_back cd_Descent_take_back ct_Descent_take_back : Value}
    {od_Descent_take_back an_Descent_take_back : Option Addr}
    {sl_Descent_take_back : Array (Option Value)}
    {ad_gs_back : Addr}
    {oc_gs_back kV_gs_back dc_gs_back pm_gs_back cd_gs_back ct_gs_back : Value}
    {od_gs_back an_gs_back : Option Addr}
    {sl_gs_back : Array (Option Value)}
    {ad_Descent_do_again : Addr}
    {oc_Descent_do_again kV_Descent_do_again dc_Descent_do_again pm_Descent_do_again cd_Descent_do_again ct_Descent_do_again : Value}
    {od_Descent_do_again an_Descent_do_again : Option Addr}
    {sl_Descent_do_again : Array (Option Value)}
    {ad_gs_again : Addr}
    {oc_gs_again kV_gs_again dc_gs_again pm_gs_again cd_gs_again ct_gs_again : Value}
    {od_gs_again an_gs_again : Option Addr}
    {sl_gs_again : Array (Option Value)}
    {ad_told_rule : Addr}
    {oc_told_rule kV_told_rule dc_told_rule pm_told_rule cd_told_rule ct_told_rule : Value}
    {od_told_rule an_told_rule : Option Addr}
    {sl_told_rule : Array (Option Value)}
    {ad_gs_state : Addr}
    {oc_gs_state kV_gs_state dc_gs_state pm_gs_state cd_gs_state ct_gs_state : Value}
    {od_gs_state an_gs_state : Option Addr}
    {sl_gs_state : Array (Option Value)}
    {ad_answers : Addr}
    {oc_answers kV_answers dc_answers pm_answers cd_answers ct_answers : Value}
    {od_answers an_answers : Option Addr}
    {sl_answers : Array (Option Value)}
    {tk_OLDEST_FATHER : Tok}
    {tk_OLDEST_FIRST : Tok}
    {tk_WIDEST_GAP : Tok}
    {tk_OUT_OF_BOUNDS : Tok}
    {tk_MOST_TAKEN_BACK : Tok}
    {tk_MOST_AT_ONE_AGE : Tok}
    {tk_MOST_SONS : Tok}
    {tk_TOO_MANY_SONS : Tok}
    {tk_HIGHEST_GRADE : Tok}
    {tk_ALREADY_SO : Tok}
    {tk_NO_RULE : Tok}
    {tk_LAST_GENERATION : Tok}
    {tk_OLDEST_ASKED : Tok}
    {tk_YOUNGEST_ASKED : Tok}
    {tk_NOTHING_TO_TELL : Tok}
    {tk_LAST_FATHERS : Tok}
    {tk_NO_CHANGE : Tok}
    {aT_CALLS : Addr}
    {oT_CALLS : Option Addr}
    {nT_CALLS : Nat}
    {sT_CALLS : Array (Option Value)}
    {aT_SIZES : Addr}
    {oT_SIZES : Option Addr}
    {nT_SIZES : Nat}
    {sT_SIZES : Array (Option Value)}
    {tT_SIZES_0 : Tok}
    {tT_SIZES_1 : Tok}
    {tT_SIZES_2 : Tok}
    {tT_SIZES_3 : Tok}
    {tT_SIZES_4 : Tok}
    {tT_SIZES_5 : Tok}
    {tT_SIZES_6 : Tok}
    {tT_SIZES_7 : Tok}
    {tT_SIZES_8 : Tok}
    {tT_SIZES_9 : Tok}
    {tT_SIZES_10 : Tok}
    {tT_SIZES_11 : Tok}
    {tT_SIZES_12 : Tok}
    {tT_SIZES_13 : Tok}
    {tT_SIZES_14 : Tok}
    {tT_SIZES_15 : Tok}
    {tT_SIZES_16 : Tok}
    {tT_SIZES_17 : Tok}
    {tT_SIZES_18 : Tok}
    {tT_SIZES_19 : Tok}
    {tT_SIZES_20 : Tok}
    (X : K.In h) (G : h.Ns mainGlobals mg) (hfa : mg "answers" = some (.ref fa))
    (aC : PySem.W.nsIn K mainGlobals "Descent" = some (some (.ref C)))
    (a_Descent_begin : PySem.W.findIn K (.ref C) "begin" = some (some (.ref ad_Descent_begin)))
    (i_Descent_begin : PySem.W.isFn K (.ref ad_Descent_begin) = true)
    (l_Descent_begin : K.lookup ad_Descent_begin = some ⟨oc_Descent_begin, od_Descent_begin, .func (PySem.W.fnOf "begin" "Descent.begin" (defArgs s_Descent_begin) (defBody s_Descent_begin) (defScope s_Descent_begin) .none kV_Descent_begin dc_Descent_begin pm_Descent_begin an_Descent_begin cd_Descent_begin ct_Descent_begin), sl_Descent_begin⟩)
    (c_Descent_begin : PySem.W.codeIn K cd_Descent_begin "Descent.begin" = true)
    (k_Descent_begin : PySem.W.keepIn K (.ref ad_Descent_begin) = true)
    (a_Descent___init__ : PySem.W.findIn K (.ref C) "__init__" = some (some (.ref ad_Descent___init__)))
    (i_Descent___init__ : PySem.W.isFn K (.ref ad_Descent___init__) = true)
    (l_Descent___init__ : K.lookup ad_Descent___init__ = some ⟨oc_Descent___init__, od_Descent___init__, .func (PySem.W.fnOf "__init__" "Descent.__init__" (defArgs s_Descent___init__) (defBody s_Descent___init__) (defScope s_Descent___init__) .none kV_Descent___init__ dc_Descent___init__ pm_Descent___init__ an_Descent___init__ cd_Descent___init__ ct_Descent___init__), sl_Descent___init__⟩)
    (c_Descent___init__ : PySem.W.codeIn K cd_Descent___init__ "Descent.__init__" = true)
    (k_Descent___init__ : PySem.W.keepIn K (.ref ad_Descent___init__) = true)
    (a_is_gap : PySem.W.nsIn K mainGlobals "is_gap" = some (some (.ref ad_is_gap)))
    (l_is_gap : K.lookup ad_is_gap = some ⟨oc_is_gap, od_is_gap, .func (PySem.W.fnOf "is_gap" "is_gap" (defArgs s_is_gap) (defBody s_is_gap) (defScope s_is_gap) .none kV_is_gap dc_is_gap pm_is_gap an_is_gap cd_is_gap ct_is_gap), sl_is_gap⟩)
    (c_is_gap : PySem.W.codeIn K cd_is_gap "is_gap" = true)
    (k_is_gap : PySem.W.keepIn K (.ref ad_is_gap) = true)
    (a_gs_start : PySem.W.nsIn K mainGlobals "gs_start" = some (some (.ref ad_gs_start)))
    (l_gs_start : K.lookup ad_gs_start = some ⟨oc_gs_start, od_gs_start, .func (PySem.W.fnOf "gs_start" "gs_start" (defArgs s_gs_start) (defBody s_gs_start) (defScope s_gs_start) .none kV_gs_start dc_gs_start pm_gs_start an_gs_start cd_gs_start ct_gs_start), sl_gs_start⟩)
    (c_gs_start : PySem.W.codeIn K cd_gs_start "gs_start" = true)
    (k_gs_start : PySem.W.keepIn K (.ref ad_gs_start) = true)
    (a_Descent_as_it_is : PySem.W.findIn K (.ref C) "as_it_is" = some (some (.ref ad_Descent_as_it_is)))
    (i_Descent_as_it_is : PySem.W.isFn K (.ref ad_Descent_as_it_is) = true)
    (l_Descent_as_it_is : K.lookup ad_Descent_as_it_is = some ⟨oc_Descent_as_it_is, od_Descent_as_it_is, .func (PySem.W.fnOf "as_it_is" "Descent.as_it_is" (defArgs s_Descent_as_it_is) (defBody s_Descent_as_it_is) (defScope s_Descent_as_it_is) .none kV_Descent_as_it_is dc_Descent_as_it_is pm_Descent_as_it_is an_Descent_as_it_is cd_Descent_as_it_is ct_Descent_as_it_is), sl_Descent_as_it_is⟩)
    (c_Descent_as_it_is : PySem.W.codeIn K cd_Descent_as_it_is "Descent.as_it_is" = true)
    (k_Descent_as_it_is : PySem.W.keepIn K (.ref ad_Descent_as_it_is) = true)
    (a_Descent_mark_change : PySem.W.findIn K (.ref C) "mark_change" = some (some (.ref ad_Descent_mark_change)))
    (i_Descent_mark_change : PySem.W.isFn K (.ref ad_Descent_mark_change) = true)
    (l_Descent_mark_change : K.lookup ad_Descent_mark_change = some ⟨oc_Descent_mark_change, od_Descent_mark_change, .func (PySem.W.fnOf "mark_change" "Descent.mark_change" (defArgs s_Descent_mark_change) (defBody s_Descent_mark_change) (defScope s_Descent_mark_change) .none kV_Descent_mark_change dc_Descent_mark_change pm_Descent_mark_change an_Descent_mark_change cd_Descent_mark_change ct_Descent_mark_change), sl_Descent_mark_change⟩)
    (c_Descent_mark_change : PySem.W.codeIn K cd_Descent_mark_change "Descent.mark_change" = true)
    (k_Descent_mark_change : PySem.W.keepIn K (.ref ad_Descent_mark_change) = true)
    (a_gs_sons : PySem.W.nsIn K mainGlobals "gs_sons" = some (some (.ref ad_gs_sons)))
    (l_gs_sons : K.lookup ad_gs_sons = some ⟨oc_gs_sons, od_gs_sons, .func (PySem.W.fnOf "gs_sons" "gs_sons" (defArgs s_gs_sons) (defBody s_gs_sons) (defScope s_gs_sons) .none kV_gs_sons dc_gs_sons pm_gs_sons an_gs_sons cd_gs_sons ct_gs_sons), sl_gs_sons⟩)
    (c_gs_sons : PySem.W.codeIn K cd_gs_sons "gs_sons" = true)
    (k_gs_sons : PySem.W.keepIn K (.ref ad_gs_sons) = true)
    (a_gs_rule : PySem.W.nsIn K mainGlobals "gs_rule" = some (some (.ref ad_gs_rule)))
    (l_gs_rule : K.lookup ad_gs_rule = some ⟨oc_gs_rule, od_gs_rule, .func (PySem.W.fnOf "gs_rule" "gs_rule" (defArgs s_gs_rule) (defBody s_gs_rule) (defScope s_gs_rule) .none kV_gs_rule dc_gs_rule pm_gs_rule an_gs_rule cd_gs_rule ct_gs_rule), sl_gs_rule⟩)
    (c_gs_rule : PySem.W.codeIn K cd_gs_rule "gs_rule" = true)
    (k_gs_rule : PySem.W.keepIn K (.ref ad_gs_rule) = true)
    (a_gs_free : PySem.W.nsIn K mainGlobals "gs_free" = some (some (.ref ad_gs_free)))
    (l_gs_free : K.lookup ad_gs_free = some ⟨oc_gs_free, od_gs_free, .func (PySem.W.fnOf "gs_free" "gs_free" (defArgs s_gs_free) (defBody s_gs_free) (defScope s_gs_free) .none kV_gs_free dc_gs_free pm_gs_free an_gs_free cd_gs_free ct_gs_free), sl_gs_free⟩)
    (c_gs_free : PySem.W.codeIn K cd_gs_free "gs_free" = true)
    (k_gs_free : PySem.W.keepIn K (.ref ad_gs_free) = true)
    (a_gs_first : PySem.W.nsIn K mainGlobals "gs_first" = some (some (.ref ad_gs_first)))
    (l_gs_first : K.lookup ad_gs_first = some ⟨oc_gs_first, od_gs_first, .func (PySem.W.fnOf "gs_first" "gs_first" (defArgs s_gs_first) (defBody s_gs_first) (defScope s_gs_first) .none kV_gs_first dc_gs_first pm_gs_first an_gs_first cd_gs_first ct_gs_first), sl_gs_first⟩)
    (c_gs_first : PySem.W.codeIn K cd_gs_first "gs_first" = true)
    (k_gs_first : PySem.W.keepIn K (.ref ad_gs_first) = true)
    (a_gs_gap : PySem.W.nsIn K mainGlobals "gs_gap" = some (some (.ref ad_gs_gap)))
    (l_gs_gap : K.lookup ad_gs_gap = some ⟨oc_gs_gap, od_gs_gap, .func (PySem.W.fnOf "gs_gap" "gs_gap" (defArgs s_gs_gap) (defBody s_gs_gap) (defScope s_gs_gap) .none kV_gs_gap dc_gs_gap pm_gs_gap an_gs_gap cd_gs_gap ct_gs_gap), sl_gs_gap⟩)
    (c_gs_gap : PySem.W.codeIn K cd_gs_gap "gs_gap" = true)
    (k_gs_gap : PySem.W.keepIn K (.ref ad_gs_gap) = true)
    (a_first_generation : PySem.W.nsIn K mainGlobals "first_generation" = some (some (.ref ad_first_generation)))
    (l_first_generation : K.lookup ad_first_generation = some ⟨oc_first_generation, od_first_generation, .func (PySem.W.fnOf "first_generation" "first_generation" (defArgs s_first_generation) (defBody s_first_generation) (defScope s_first_generation) .none kV_first_generation dc_first_generation pm_first_generation an_first_generation cd_first_generation ct_first_generation), sl_first_generation⟩)
    (c_first_generation : PySem.W.codeIn K cd_first_generation "first_generation" = true)
    (k_first_generation : PySem.W.keepIn K (.ref ad_first_generation) = true)
    (a_is_counted : PySem.W.nsIn K mainGlobals "is_counted" = some (some (.ref ad_is_counted)))
    (l_is_counted : K.lookup ad_is_counted = some ⟨oc_is_counted, od_is_counted, .func (PySem.W.fnOf "is_counted" "is_counted" (defArgs s_is_counted) (defBody s_is_counted) (defScope s_is_counted) .none kV_is_counted dc_is_counted pm_is_counted an_is_counted cd_is_counted ct_is_counted), sl_is_counted⟩)
    (c_is_counted : PySem.W.codeIn K cd_is_counted "is_counted" = true)
    (k_is_counted : PySem.W.keepIn K (.ref ad_is_counted) = true)
    (a_next_generation : PySem.W.nsIn K mainGlobals "next_generation" = some (some (.ref ad_next_generation)))
    (l_next_generation : K.lookup ad_next_generation = some ⟨oc_next_generation, od_next_generation, .func (PySem.W.fnOf "next_generation" "next_generation" (defArgs s_next_generation) (defBody s_next_generation) (defScope s_next_generation) .none kV_next_generation dc_next_generation pm_next_generation an_next_generation cd_next_generation ct_next_generation), sl_next_generation⟩)
    (c_next_generation : PySem.W.codeIn K cd_next_generation "next_generation" = true)
    (k_next_generation : PySem.W.keepIn K (.ref ad_next_generation) = true)
    (a_generation : PySem.W.nsIn K mainGlobals "generation" = some (some (.ref ad_generation)))
    (l_generation : K.lookup ad_generation = some ⟨oc_generation, od_generation, .func (PySem.W.fnOf "generation" "generation" (defArgs s_generation) (defBody s_generation) (defScope s_generation) .none kV_generation dc_generation pm_generation an_generation cd_generation ct_generation), sl_generation⟩)
    (c_generation : PySem.W.codeIn K cd_generation "generation" = true)
    (k_generation : PySem.W.keepIn K (.ref ad_generation) = true)
    (a_gs_total : PySem.W.nsIn K mainGlobals "gs_total" = some (some (.ref ad_gs_total)))
    (l_gs_total : K.lookup ad_gs_total = some ⟨oc_gs_total, od_gs_total, .func (PySem.W.fnOf "gs_total" "gs_total" (defArgs s_gs_total) (defBody s_gs_total) (defScope s_gs_total) .none kV_gs_total dc_gs_total pm_gs_total an_gs_total cd_gs_total ct_gs_total), sl_gs_total⟩)
    (c_gs_total : PySem.W.codeIn K cd_gs_total "gs_total" = true)
    (k_gs_total : PySem.W.keepIn K (.ref ad_gs_total) = true)
    (a_gs_count : PySem.W.nsIn K mainGlobals "gs_count" = some (some (.ref ad_gs_count)))
    (l_gs_count : K.lookup ad_gs_count = some ⟨oc_gs_count, od_gs_count, .func (PySem.W.fnOf "gs_count" "gs_count" (defArgs s_gs_count) (defBody s_gs_count) (defScope s_gs_count) .none kV_gs_count dc_gs_count pm_gs_count an_gs_count cd_gs_count ct_gs_count), sl_gs_count⟩)
    (c_gs_count : PySem.W.codeIn K cd_gs_count "gs_count" = true)
    (k_gs_count : PySem.W.keepIn K (.ref ad_gs_count) = true)
    (a_gs_younger : PySem.W.nsIn K mainGlobals "gs_younger" = some (some (.ref ad_gs_younger)))
    (l_gs_younger : K.lookup ad_gs_younger = some ⟨oc_gs_younger, od_gs_younger, .func (PySem.W.fnOf "gs_younger" "gs_younger" (defArgs s_gs_younger) (defBody s_gs_younger) (defScope s_gs_younger) .none kV_gs_younger dc_gs_younger pm_gs_younger an_gs_younger cd_gs_younger ct_gs_younger), sl_gs_younger⟩)
    (c_gs_younger : PySem.W.codeIn K cd_gs_younger "gs_younger" = true)
    (k_gs_younger : PySem.W.keepIn K (.ref ad_gs_younger) = true)
    (a_gs_between : PySem.W.nsIn K mainGlobals "gs_between" = some (some (.ref ad_gs_between)))
    (l_gs_between : K.lookup ad_gs_between = some ⟨oc_gs_between, od_gs_between, .func (PySem.W.fnOf "gs_between" "gs_between" (defArgs s_gs_between) (defBody s_gs_between) (defScope s_gs_between) .none kV_gs_between dc_gs_between pm_gs_between an_gs_between cd_gs_between ct_gs_between), sl_gs_between⟩)
    (c_gs_between : PySem.W.codeIn K cd_gs_between "gs_between" = true)
    (k_gs_between : PySem.W.keepIn K (.ref ad_gs_between) = true)
    (a_common_divisor : PySem.W.nsIn K mainGlobals "common_divisor" = some (some (.ref ad_common_divisor)))
    (l_common_divisor : K.lookup ad_common_divisor = some ⟨oc_common_divisor, od_common_divisor, .func (PySem.W.fnOf "common_divisor" "common_divisor" (defArgs s_common_divisor) (defBody s_common_divisor) (defScope s_common_divisor) .none kV_common_divisor dc_common_divisor pm_common_divisor an_common_divisor cd_common_divisor ct_common_divisor), sl_common_divisor⟩)
    (c_common_divisor : PySem.W.codeIn K cd_common_divisor "common_divisor" = true)
    (k_common_divisor : PySem.W.keepIn K (.ref ad_common_divisor) = true)
    (a_with_sign : PySem.W.nsIn K mainGlobals "with_sign" = some (some (.ref ad_with_sign)))
    (l_with_sign : K.lookup ad_with_sign = some ⟨oc_with_sign, od_with_sign, .func (PySem.W.fnOf "with_sign" "with_sign" (defArgs s_with_sign) (defBody s_with_sign) (defScope s_with_sign) .none kV_with_sign dc_with_sign pm_with_sign an_with_sign cd_with_sign ct_with_sign), sl_with_sign⟩)
    (c_with_sign : PySem.W.codeIn K cd_with_sign "with_sign" = true)
    (k_with_sign : PySem.W.keepIn K (.ref ad_with_sign) = true)
    (a_ratio : PySem.W.nsIn K mainGlobals "ratio" = some (some (.ref ad_ratio)))
    (l_ratio : K.lookup ad_ratio = some ⟨oc_ratio, od_ratio, .func (PySem.W.fnOf "ratio" "ratio" (defArgs s_ratio) (defBody s_ratio) (defScope s_ratio) .none kV_ratio dc_ratio pm_ratio an_ratio cd_ratio ct_ratio), sl_ratio⟩)
    (c_ratio : PySem.W.codeIn K cd_ratio "ratio" = true)
    (k_ratio : PySem.W.keepIn K (.ref ad_ratio) = true)
    (a_gs_mean : PySem.W.nsIn K mainGlobals "gs_mean" = some (some (.ref ad_gs_mean)))
    (l_gs_mean : K.lookup ad_gs_mean = some ⟨oc_gs_mean, od_gs_mean, .func (PySem.W.fnOf "gs_mean" "gs_mean" (defArgs s_gs_mean) (defBody s_gs_mean) (defScope s_gs_mean) .none kV_gs_mean dc_gs_mean pm_gs_mean an_gs_mean cd_gs_mean ct_gs_mean), sl_gs_mean⟩)
    (c_gs_mean : PySem.W.codeIn K cd_gs_mean "gs_mean" = true)
    (k_gs_mean : PySem.W.keepIn K (.ref ad_gs_mean) = true)
    (a_gs_spread : PySem.W.nsIn K mainGlobals "gs_spread" = some (some (.ref ad_gs_spread)))
    (l_gs_spread : K.lookup ad_gs_spread = some ⟨oc_gs_spread, od_gs_spread, .func (PySem.W.fnOf "gs_spread" "gs_spread" (defArgs s_gs_spread) (defBody s_gs_spread) (defScope s_gs_spread) .none kV_gs_spread dc_gs_spread pm_gs_spread an_gs_spread cd_gs_spread ct_gs_spread), sl_gs_spread⟩)
    (c_gs_spread : PySem.W.codeIn K cd_gs_spread "gs_spread" = true)
    (k_gs_spread : PySem.W.keepIn K (.ref ad_gs_spread) = true)
    (a_gs_most : PySem.W.nsIn K mainGlobals "gs_most" = some (some (.ref ad_gs_most)))
    (l_gs_most : K.lookup ad_gs_most = some ⟨oc_gs_most, od_gs_most, .func (PySem.W.fnOf "gs_most" "gs_most" (defArgs s_gs_most) (defBody s_gs_most) (defScope s_gs_most) .none kV_gs_most dc_gs_most pm_gs_most an_gs_most cd_gs_most ct_gs_most), sl_gs_most⟩)
    (c_gs_most : PySem.W.codeIn K cd_gs_most "gs_most" = true)
    (k_gs_most : PySem.W.keepIn K (.ref ad_gs_most) = true)
    (a_lost_sons : PySem.W.nsIn K mainGlobals "lost_sons" = some (some (.ref ad_lost_sons)))
    (l_lost_sons : K.lookup ad_lost_sons = some ⟨oc_lost_sons, od_lost_sons, .func (PySem.W.fnOf "lost_sons" "lost_sons" (defArgs s_lost_sons) (defBody s_lost_sons) (defScope s_lost_sons) .none kV_lost_sons dc_lost_sons pm_lost_sons an_lost_sons cd_lost_sons ct_lost_sons), sl_lost_sons⟩)
    (c_lost_sons : PySem.W.codeIn K cd_lost_sons "lost_sons" = true)
    (k_lost_sons : PySem.W.keepIn K (.ref ad_lost_sons) = true)
    (a_gs_lost : PySem.W.nsIn K mainGlobals "gs_lost" = some (some (.ref ad_gs_lost)))
    (l_gs_lost : K.lookup ad_gs_lost = some ⟨oc_gs_lost, od_gs_lost, .func (PySem.W.fnOf "gs_lost" "gs_lost" (defArgs s_gs_lost) (defBody s_gs_lost) (defScope s_gs_lost) .none kV_gs_lost dc_gs_lost pm_gs_lost an_gs_lost cd_gs_lost ct_gs_lost), sl_gs_lost⟩)
    (c_gs_lost : PySem.W.codeIn K cd_gs_lost "gs_lost" = true)
    (k_gs_lost : PySem.W.keepIn K (.ref ad_gs_lost) = true)
    (a_ages_at_births : PySem.W.nsIn K mainGlobals "ages_at_births" = some (some (.ref ad_ages_at_births)))
    (l_ages_at_births : K.lookup ad_ages_at_births = some ⟨oc_ages_at_births, od_ages_at_births, .func (PySem.W.fnOf "ages_at_births" "ages_at_births" (defArgs s_ages_at_births) (defBody s_ages_at_births) (defScope s_ages_at_births) .none kV_ages_at_births dc_ages_at_births pm_ages_at_births an_ages_at_births cd_ages_at_births ct_ages_at_births), sl_ages_at_births⟩)
    (c_ages_at_births : PySem.W.codeIn K cd_ages_at_births "ages_at_births" = true)
    (k_ages_at_births : PySem.W.keepIn K (.ref ad_ages_at_births) = true)
    (a_gs_balance : PySem.W.nsIn K mainGlobals "gs_balance" = some (some (.ref ad_gs_balance)))
    (l_gs_balance : K.lookup ad_gs_balance = some ⟨oc_gs_balance, od_gs_balance, .func (PySem.W.fnOf "gs_balance" "gs_balance" (defArgs s_gs_balance) (defBody s_gs_balance) (defScope s_gs_balance) .none kV_gs_balance dc_gs_balance pm_gs_balance an_gs_balance cd_gs_balance ct_gs_balance), sl_gs_balance⟩)
    (c_gs_balance : PySem.W.codeIn K cd_gs_balance "gs_balance" = true)
    (k_gs_balance : PySem.W.keepIn K (.ref ad_gs_balance) = true)
    (a_gs_each : PySem.W.nsIn K mainGlobals "gs_each" = some (some (.ref ad_gs_each)))
    (l_gs_each : K.lookup ad_gs_each = some ⟨oc_gs_each, od_gs_each, .func (PySem.W.fnOf "gs_each" "gs_each" (defArgs s_gs_each) (defBody s_gs_each) (defScope s_gs_each) .none kV_gs_each dc_gs_each pm_gs_each an_gs_each cd_gs_each ct_gs_each), sl_gs_each⟩)
    (c_gs_each : PySem.W.codeIn K cd_gs_each "gs_each" = true)
    (k_gs_each : PySem.W.keepIn K (.ref ad_gs_each) = true)
    (a_gs_told_sons : PySem.W.nsIn K mainGlobals "gs_told_sons" = some (some (.ref ad_gs_told_sons)))
    (l_gs_told_sons : K.lookup ad_gs_told_sons = some ⟨oc_gs_told_sons, od_gs_told_sons, .func (PySem.W.fnOf "gs_told_sons" "gs_told_sons" (defArgs s_gs_told_sons) (defBody s_gs_told_sons) (defScope s_gs_told_sons) .none kV_gs_told_sons dc_gs_told_sons pm_gs_told_sons an_gs_told_sons cd_gs_told_sons ct_gs_told_sons), sl_gs_told_sons⟩)
    (c_gs_told_sons : PySem.W.codeIn K cd_gs_told_sons "gs_told_sons" = true)
    (k_gs_told_sons : PySem.W.keepIn K (.ref ad_gs_told_sons) = true)
    (a_gs_bounds : PySem.W.nsIn K mainGlobals "gs_bounds" = some (some (.ref ad_gs_bounds)))
    (l_gs_bounds : K.lookup ad_gs_bounds = some ⟨oc_gs_bounds, od_gs_bounds, .func (PySem.W.fnOf "gs_bounds" "gs_bounds" (defArgs s_gs_bounds) (defBody s_gs_bounds) (defScope s_gs_bounds) .none kV_gs_bounds dc_gs_bounds pm_gs_bounds an_gs_bounds cd_gs_bounds ct_gs_bounds), sl_gs_bounds⟩)
    (c_gs_bounds : PySem.W.codeIn K cd_gs_bounds "gs_bounds" = true)
    (k_gs_bounds : PySem.W.keepIn K (.ref ad_gs_bounds) = true)
    (a_Descent_put_back : PySem.W.findIn K (.ref C) "put_back" = some (some (.ref ad_Descent_put_back)))
    (i_Descent_put_back : PySem.W.isFn K (.ref ad_Descent_put_back) = true)
    (l_Descent_put_back : K.lookup ad_Descent_put_back = some ⟨oc_Descent_put_back, od_Descent_put_back, .func (PySem.W.fnOf "put_back" "Descent.put_back" (defArgs s_Descent_put_back) (defBody s_Descent_put_back) (defScope s_Descent_put_back) .none kV_Descent_put_back dc_Descent_put_back pm_Descent_put_back an_Descent_put_back cd_Descent_put_back ct_Descent_put_back), sl_Descent_put_back⟩)
    (c_Descent_put_back : PySem.W.codeIn K cd_Descent_put_back "Descent.put_back" = true)
    (k_Descent_put_back : PySem.W.keepIn K (.ref ad_Descent_put_back) = true)
    (a_Descent_take_back : PySem.W.findIn K (.ref C) "take_back" = some (some (.ref ad_Descent_take_back)))
    (i_Descent_take_back : PySem.W.isFn K (.ref ad_Descent_take_back) = true)
    (l_Descent_take_back : K.lookup ad_Descent_take_back = some ⟨oc_Descent_take_back, od_Descent_take_back, .func (PySem.W.fnOf "take_back" "Descent.take_back" (defArgs s_Descent_take_back) (defBody s_Descent_take_back) (defScope s_Descent_take_back) .none kV_Descent_take_back dc_Descent_take_back pm_Descent_take_back an_Descent_take_back cd_Descent_take_back ct_Descent_take_back), sl_Descent_take_back⟩)
    (c_Descent_take_back : PySem.W.codeIn K cd_Descent_take_back "Descent.take_back" = true)
    (k_Descent_take_back : PySem.W.keepIn K (.ref ad_Descent_take_back) = true)
    (a_gs_back : PySem.W.nsIn K mainGlobals "gs_back" = some (some (.ref ad_gs_back)))
    (l_gs_back : K.lookup ad_gs_back = some ⟨oc_gs_back, od_gs_back, .func (PySem.W.fnOf "gs_back" "gs_back" (defArgs s_gs_back) (defBody s_gs_back) (defScope s_gs_back) .none kV_gs_back dc_gs_back pm_gs_back an_gs_back cd_gs_back ct_gs_back), sl_gs_back⟩)
    (c_gs_back : PySem.W.codeIn K cd_gs_back "gs_back" = true)
    (k_gs_back : PySem.W.keepIn K (.ref ad_gs_back) = true)
    (a_Descent_do_again : PySem.W.findIn K (.ref C) "do_again" = some (some (.ref ad_Descent_do_again)))
    (i_Descent_do_again : PySem.W.isFn K (.ref ad_Descent_do_again) = true)
    (l_Descent_do_again : K.lookup ad_Descent_do_again = some ⟨oc_Descent_do_again, od_Descent_do_again, .func (PySem.W.fnOf "do_again" "Descent.do_again" (defArgs s_Descent_do_again) (defBody s_Descent_do_again) (defScope s_Descent_do_again) .none kV_Descent_do_again dc_Descent_do_again pm_Descent_do_again an_Descent_do_again cd_Descent_do_again ct_Descent_do_again), sl_Descent_do_again⟩)
    (c_Descent_do_again : PySem.W.codeIn K cd_Descent_do_again "Descent.do_again" = true)
    (k_Descent_do_again : PySem.W.keepIn K (.ref ad_Descent_do_again) = true)
    (a_gs_again : PySem.W.nsIn K mainGlobals "gs_again" = some (some (.ref ad_gs_again)))
    (l_gs_again : K.lookup ad_gs_again = some ⟨oc_gs_again, od_gs_again, .func (PySem.W.fnOf "gs_again" "gs_again" (defArgs s_gs_again) (defBody s_gs_again) (defScope s_gs_again) .none kV_gs_again dc_gs_again pm_gs_again an_gs_again cd_gs_again ct_gs_again), sl_gs_again⟩)
    (c_gs_again : PySem.W.codeIn K cd_gs_again "gs_again" = true)
    (k_gs_again : PySem.W.keepIn K (.ref ad_gs_again) = true)
    (a_told_rule : PySem.W.nsIn K mainGlobals "told_rule" = some (some (.ref ad_told_rule)))
    (l_told_rule : K.lookup ad_told_rule = some ⟨oc_told_rule, od_told_rule, .func (PySem.W.fnOf "told_rule" "told_rule" (defArgs s_told_rule) (defBody s_told_rule) (defScope s_told_rule) .none kV_told_rule dc_told_rule pm_told_rule an_told_rule cd_told_rule ct_told_rule), sl_told_rule⟩)
    (c_told_rule : PySem.W.codeIn K cd_told_rule "told_rule" = true)
    (k_told_rule : PySem.W.keepIn K (.ref ad_told_rule) = true)
    (a_gs_state : PySem.W.nsIn K mainGlobals "gs_state" = some (some (.ref ad_gs_state)))
    (l_gs_state : K.lookup ad_gs_state = some ⟨oc_gs_state, od_gs_state, .func (PySem.W.fnOf "gs_state" "gs_state" (defArgs s_gs_state) (defBody s_gs_state) (defScope s_gs_state) .none kV_gs_state dc_gs_state pm_gs_state an_gs_state cd_gs_state ct_gs_state), sl_gs_state⟩)
    (c_gs_state : PySem.W.codeIn K cd_gs_state "gs_state" = true)
    (k_gs_state : PySem.W.keepIn K (.ref ad_gs_state) = true)
    (a_answers : PySem.W.nsIn K mainGlobals "answers" = some (some (.ref ad_answers)))
    (l_answers : K.lookup ad_answers = some ⟨oc_answers, od_answers, .func (PySem.W.fnOf "answers" "answers" (defArgs s_answers) (defBody s_answers) (defScope s_answers) .none kV_answers dc_answers pm_answers an_answers cd_answers ct_answers), sl_answers⟩)
    (c_answers : PySem.W.codeIn K cd_answers "answers" = true)
    (k_answers : PySem.W.keepIn K (.ref ad_answers) = true)
    (q_OLDEST_FATHER : PySem.W.nsIn K mainGlobals "OLDEST_FATHER" = some (some (.int (12) tk_OLDEST_FATHER)))
    (q_OLDEST_FIRST : PySem.W.nsIn K mainGlobals "OLDEST_FIRST" = some (some (.int (20) tk_OLDEST_FIRST)))
    (q_WIDEST_GAP : PySem.W.nsIn K mainGlobals "WIDEST_GAP" = some (some (.int (10) tk_WIDEST_GAP)))
    (q_OUT_OF_BOUNDS : PySem.W.nsIn K mainGlobals "OUT_OF_BOUNDS" = some (some (.int (-22) tk_OUT_OF_BOUNDS)))
    (z_tuple : PySem.W.nsIn K mainGlobals "tuple" = some none)
    (z_len : PySem.W.nsIn K mainGlobals "len" = some none)
    (q_MOST_TAKEN_BACK : PySem.W.nsIn K mainGlobals "MOST_TAKEN_BACK" = some (some (.int (20) tk_MOST_TAKEN_BACK)))
    (q_MOST_AT_ONE_AGE : PySem.W.nsIn K mainGlobals "MOST_AT_ONE_AGE" = some (some (.int (9) tk_MOST_AT_ONE_AGE)))
    (z_sum : PySem.W.nsIn K mainGlobals "sum" = some none)
    (q_MOST_SONS : PySem.W.nsIn K mainGlobals "MOST_SONS" = some (some (.int (40) tk_MOST_SONS)))
    (q_TOO_MANY_SONS : PySem.W.nsIn K mainGlobals "TOO_MANY_SONS" = some (some (.int (-28) tk_TOO_MANY_SONS)))
    (q_HIGHEST_GRADE : PySem.W.nsIn K mainGlobals "HIGHEST_GRADE" = some (some (.int (40) tk_HIGHEST_GRADE)))
    (q_ALREADY_SO : PySem.W.nsIn K mainGlobals "ALREADY_SO" = some (some (.int (-17) tk_ALREADY_SO)))
    (q_NO_RULE : PySem.W.nsIn K mainGlobals "NO_RULE" = some (some (.int (-6) tk_NO_RULE)))
    (z_enumerate : PySem.W.nsIn K mainGlobals "enumerate" = some none)
    (z_range : PySem.W.nsIn K mainGlobals "range" = some none)
    (q_LAST_GENERATION : PySem.W.nsIn K mainGlobals "LAST_GENERATION" = some (some (.int (3) tk_LAST_GENERATION)))
    (q_OLDEST_ASKED : PySem.W.nsIn K mainGlobals "OLDEST_ASKED" = some (some (.int (80) tk_OLDEST_ASKED)))
    (q_YOUNGEST_ASKED : PySem.W.nsIn K mainGlobals "YOUNGEST_ASKED" = some (some (.int (60) tk_YOUNGEST_ASKED)))
    (z_abs : PySem.W.nsIn K mainGlobals "abs" = some none)
    (q_NOTHING_TO_TELL : PySem.W.nsIn K mainGlobals "NOTHING_TO_TELL" = some (some (.int (-33) tk_NOTHING_TO_TELL)))
    (z_min : PySem.W.nsIn K mainGlobals "min" = some none)
    (z_max : PySem.W.nsIn K mainGlobals "max" = some none)
    (q_LAST_FATHERS : PySem.W.nsIn K mainGlobals "LAST_FATHERS" = some (some (.int (2) tk_LAST_FATHERS)))
    (z_list : PySem.W.nsIn K mainGlobals "list" = some none)
    (q_NO_CHANGE : PySem.W.nsIn K mainGlobals "NO_CHANGE" = some (some (.int (-2) tk_NO_CHANGE)))
    (at_CALLS : PySem.W.nsIn K mainGlobals "CALLS" = some (some (.ref aT_CALLS)))
    (lt_CALLS : K.lookup aT_CALLS = some ⟨.type "tuple", oT_CALLS, .seq #[.ref ad_gs_start, .ref ad_gs_sons, .ref ad_gs_rule, .ref ad_gs_free, .ref ad_gs_first, .ref ad_gs_gap, .ref ad_gs_total, .ref ad_gs_count, .ref ad_gs_younger, .ref ad_gs_between, .ref ad_gs_mean, .ref ad_gs_spread, .ref ad_gs_most, .ref ad_gs_lost, .ref ad_gs_balance, .ref ad_gs_each, .ref ad_gs_told_sons, .ref ad_gs_bounds, .ref ad_gs_back, .ref ad_gs_again, .ref ad_gs_state] nT_CALLS, sT_CALLS⟩)
    (at_SIZES : PySem.W.nsIn K mainGlobals "SIZES" = some (some (.ref aT_SIZES)))
    (lt_SIZES : K.lookup aT_SIZES = some ⟨.type "tuple", oT_SIZES, .seq #[.int (1) tT_SIZES_0, .int (2) tT_SIZES_1, .int (2) tT_SIZES_2, .int (0) tT_SIZES_3, .int (2) tT_SIZES_4, .int (1) tT_SIZES_5, .int (1) tT_SIZES_6, .int (2) tT_SIZES_7, .int (2) tT_SIZES_8, .int (3) tT_SIZES_9, .int (1) tT_SIZES_10, .int (1) tT_SIZES_11, .int (1) tT_SIZES_12, .int (1) tT_SIZES_13, .int (0) tT_SIZES_14, .int (0) tT_SIZES_15, .int (0) tT_SIZES_16, .int (0) tT_SIZES_17, .int (0) tT_SIZES_18, .int (0) tT_SIZES_19, .int (0) tT_SIZES_20] nT_SIZES, sT_SIZES⟩)
    (pg : PySem.W.plainGet K C Str.empty = true)
    (hd : PySem.W.hasDictIn K C = true)
    (po : PySem.W.plainOver K C = true)
    (sa : PySem.W.findIn K (.ref C) "__setattr__" = some (some (.builtin "object.__setattr__")))
    (mk : PySem.W.makesIn K C = true)
    (kc : PySem.W.keepIn K (.ref C) = true)
    (n_gap : PySem.W.findIn K (.ref C) "gap" = some none)
    (n_sons : PySem.W.findIn K (.ref C) "sons" = some none)
    (n_firsts : PySem.W.findIn K (.ref C) "firsts" = some none)
    (n_rule : PySem.W.findIn K (.ref C) "rule" = some none)
    (n_earlier : PySem.W.findIn K (.ref C) "earlier" = some none)
    (n_later : PySem.W.findIn K (.ref C) "later" = some none)
    : ∃ fd : FuncData, (∀ (s : Shared) (us : List Value), us.length = (["calls"] : List Str).length → BindsTo s fd ⟨us, []⟩ ((["calls"] : List Str).zip us)) ∧ ∀ base : Heap, K.In base → base.Ns mainGlobals mg → FnOk P w K mg base CX0 6 fa fd ["calls"] (spAns K) := by
  have e := hfa.symm.trans (PySem.W.mg_of X G a_answers)
  cases e
  have T : TxtC K C := ⟨⟨pg, hd, po, sa⟩, n_gap, n_sons, n_firsts, n_rule, n_earlier, n_later⟩
  have F_Descent_begin := fun_mk (st := s_Descent_begin) l_Descent_begin c_Descent_begin k_Descent_begin
  have bd_Descent_begin := F_Descent_begin.binds (ps := ["self", "gap"]) fun _ _ _ _ _ _ us hl => match us, hl with | [_, _], _ => rfl
  have F_Descent___init__ := fun_mk (st := s_Descent___init__) l_Descent___init__ c_Descent___init__ k_Descent___init__
  have bd_Descent___init__ := F_Descent___init__.binds (ps := ["self"]) fun _ _ _ _ _ _ us hl => match us, hl with | [_], _ => rfl
  have F_is_gap := fun_mk (st := s_is_gap) l_is_gap c_is_gap k_is_gap
  have bd_is_gap := F_is_gap.binds (ps := ["g"]) fun _ _ _ _ _ _ us hl => match us, hl with | [_], _ => rfl
  have F_gs_start := fun_mk (st := s_gs_start) l_gs_start c_gs_start k_gs_start
  have bd_gs_start := F_gs_start.binds (ps := ["descent", "given"]) fun _ _ _ _ _ _ us hl => match us, hl with | [_, _], _ => rfl
  have F_Descent_as_it_is := fun_mk (st := s_Descent_as_it_is) l_Descent_as_it_is c_Descent_as_it_is k_Descent_as_it_is
  have bd_Descent_as_it_is := F_Descent_as_it_is.binds (ps := ["self"]) fun _ _ _ _ _ _ us hl => match us, hl with | [_], _ => rfl
  have F_Descent_mark_change := fun_mk (st := s_Descent_mark_change) l_Descent_mark_change c_Descent_mark_change k_Descent_mark_change
  have bd_Descent_mark_change := F_Descent_mark_change.binds (ps := ["self"]) fun _ _ _ _ _ _ us hl => match us, hl with | [_], _ => rfl
  have F_gs_sons := fun_mk (st := s_gs_sons) l_gs_sons c_gs_sons k_gs_sons
  have bd_gs_sons := F_gs_sons.binds (ps := ["descent", "given"]) fun _ _ _ _ _ _ us hl => match us, hl with | [_, _], _ => rfl
  have F_gs_rule := fun_mk (st := s_gs_rule) l_gs_rule c_gs_rule k_gs_rule
  have bd_gs_rule := F_gs_rule.binds (ps := ["descent", "given"]) fun _ _ _ _ _ _ us hl => match us, hl with | [_, _], _ => rfl
  have F_gs_free := fun_mk (st := s_gs_free) l_gs_free c_gs_free k_gs_free
  have bd_gs_free := F_gs_free.binds (ps := ["descent", "given"]) fun _ _ _ _ _ _ us hl => match us, hl with | [_, _], _ => rfl
  have F_gs_first := fun_mk (st := s_gs_first) l_gs_first c_gs_first k_gs_first
  have bd_gs_first := F_gs_first.binds (ps := ["descent", "given"]) fun _ _ _ _ _ _ us hl => match us, hl with | [_, _], _ => rfl
  have F_gs_gap := fun_mk (st := s_gs_gap) l_gs_gap c_gs_gap k_gs_gap
  have bd_gs_gap := F_gs_gap.binds (ps := ["descent", "given"]) fun _ _ _ _ _ _ us hl => match us, hl with | [_, _], _ => rfl
  have F_first_generation := fun_mk (st := s_first_generation) l_first_generation c_first_generation k_first_generation
  have bd_first_generation := F_first_generation.binds (ps := ["descent"]) fun _ _ _ _ _ _ us hl => match us, hl with | [_], _ => rfl
  have F_is_counted := fun_mk (st := s_is_counted) l_is_counted c_is_counted k_is_counted
  have bd_is_counted := F_is_counted.binds (ps := ["rule", "grade"]) fun _ _ _ _ _ _ us hl => match us, hl with | [_, _], _ => rfl
  have F_next_generation := fun_mk (st := s_next_generation) l_next_generation c_next_generation k_next_generation
  have bd_next_generation := F_next_generation.binds (ps := ["descent", "fathers"]) fun _ _ _ _ _ _ us hl => match us, hl with | [_, _], _ => rfl
  have F_generation := fun_mk (st := s_generation) l_generation c_generation k_generation
  have bd_generation := F_generation.binds (ps := ["descent", "n"]) fun _ _ _ _ _ _ us hl => match us, hl with | [_, _], _ => rfl
  have F_gs_total := fun_mk (st := s_gs_total) l_gs_total c_gs_total k_gs_total
  have bd_gs_total := F_gs_total.binds (ps := ["descent", "given"]) fun _ _ _ _ _ _ us hl => match us, hl with | [_, _], _ => rfl
  have F_gs_count := fun_mk (st := s_gs_count) l_gs_count c_gs_count k_gs_count
  have bd_gs_count := F_gs_count.binds (ps := ["descent", "given"]) fun _ _ _ _ _ _ us hl => match us, hl with | [_, _], _ => rfl
  have F_gs_younger := fun_mk (st := s_gs_younger) l_gs_younger c_gs_younger k_gs_younger
  have bd_gs_younger := F_gs_younger.binds (ps := ["descent", "given"]) fun _ _ _ _ _ _ us hl => match us, hl with | [_, _], _ => rfl
  have F_gs_between := fun_mk (st := s_gs_between) l_gs_between c_gs_between k_gs_between
  have bd_gs_between := F_gs_between.binds (ps := ["descent", "given"]) fun _ _ _ _ _ _ us hl => match us, hl with | [_, _], _ => rfl
  have F_common_divisor := fun_mk (st := s_common_divisor) l_common_divisor c_common_divisor k_common_divisor
  have bd_common_divisor := F_common_divisor.binds (ps := ["a", "b"]) fun _ _ _ _ _ _ us hl => match us, hl with | [_, _], _ => rfl
  have F_with_sign := fun_mk (st := s_with_sign) l_with_sign c_with_sign k_with_sign
  have bd_with_sign := F_with_sign.binds (ps := ["number"]) fun _ _ _ _ _ _ us hl => match us, hl with | [_], _ => rfl
  have F_ratio := fun_mk (st := s_ratio) l_ratio c_ratio k_ratio
  have bd_ratio := F_ratio.binds (ps := ["above", "below"]) fun _ _ _ _ _ _ us hl => match us, hl with | [_, _], _ => rfl
  have F_gs_mean := fun_mk (st := s_gs_mean) l_gs_mean c_gs_mean k_gs_mean
  have bd_gs_mean := F_gs_mean.binds (ps := ["descent", "given"]) fun _ _ _ _ _ _ us hl => match us, hl with | [_, _], _ => rfl
  have F_gs_spread := fun_mk (st := s_gs_spread) l_gs_spread c_gs_spread k_gs_spread
  have bd_gs_spread := F_gs_spread.binds (ps := ["descent", "given"]) fun _ _ _ _ _ _ us hl => match us, hl with | [_, _], _ => rfl
  have F_gs_most := fun_mk (st := s_gs_most) l_gs_most c_gs_most k_gs_most
  have bd_gs_most := F_gs_most.binds (ps := ["descent", "given"]) fun _ _ _ _ _ _ us hl => match us, hl with | [_, _], _ => rfl
  have F_lost_sons := fun_mk (st := s_lost_sons) l_lost_sons c_lost_sons k_lost_sons
  have bd_lost_sons := F_lost_sons.binds (ps := ["descent", "fathers"]) fun _ _ _ _ _ _ us hl => match us, hl with | [_, _], _ => rfl
  have F_gs_lost := fun_mk (st := s_gs_lost) l_gs_lost c_gs_lost k_gs_lost
  have bd_gs_lost := F_gs_lost.binds (ps := ["descent", "given"]) fun _ _ _ _ _ _ us hl => match us, hl with | [_, _], _ => rfl
  have F_ages_at_births := fun_mk (st := s_ages_at_births) l_ages_at_births c_ages_at_births k_ages_at_births
  have bd_ages_at_births := F_ages_at_births.binds (ps := ["descent"]) fun _ _ _ _ _ _ us hl => match us, hl with | [_], _ => rfl
  have F_gs_balance := fun_mk (st := s_gs_balance) l_gs_balance c_gs_balance k_gs_balance
  have bd_gs_balance := F_gs_balance.binds (ps := ["descent", "given"]) fun _ _ _ _ _ _ us hl => match us, hl with | [_, _], _ => rfl
  have F_gs_each := fun_mk (st := s_gs_each) l_gs_each c_gs_each k_gs_each
  have bd_gs_each := F_gs_each.binds (ps := ["descent", "given"]) fun _ _ _ _ _ _ us hl => match us, hl with | [_, _], _ => rfl
  have F_gs_told_sons := fun_mk (st := s_gs_told_sons) l_gs_told_sons c_gs_told_sons k_gs_told_sons
  have bd_gs_told_sons := F_gs_told_sons.binds (ps := ["descent", "given"]) fun _ _ _ _ _ _ us hl => match us, hl with | [_, _], _ => rfl
  have F_gs_bounds := fun_mk (st := s_gs_bounds) l_gs_bounds c_gs_bounds k_gs_bounds
  have bd_gs_bounds := F_gs_bounds.binds (ps := ["descent", "given"]) fun _ _ _ _ _ _ us hl => match us, hl with | [_, _], _ => rfl
  have F_Descent_put_back := fun_mk (st := s_Descent_put_back) l_Descent_put_back c_Descent_put_back k_Descent_put_back
  have bd_Descent_put_back := F_Descent_put_back.binds (ps := ["self", "kept"]) fun _ _ _ _ _ _ us hl => match us, hl with | [_, _], _ => rfl
  have F_Descent_take_back := fun_mk (st := s_Descent_take_back) l_Descent_take_back c_Descent_take_back k_Descent_take_back
  have bd_Descent_take_back := F_Descent_take_back.binds (ps := ["self"]) fun _ _ _ _ _ _ us hl => match us, hl with | [_], _ => rfl
  have F_gs_back := fun_mk (st := s_gs_back) l_gs_back c_gs_back k_gs_back
  have bd_gs_back := F_gs_back.binds (ps := ["descent", "given"]) fun _ _ _ _ _ _ us hl => match us, hl with | [_, _], _ => rfl
  have F_Descent_do_again := fun_mk (st := s_Descent_do_again) l_Descent_do_again c_Descent_do_again k_Descent_do_again
  have bd_Descent_do_again := F_Descent_do_again.binds (ps := ["self"]) fun _ _ _ _ _ _ us hl => match us, hl with | [_], _ => rfl
  have F_gs_again := fun_mk (st := s_gs_again) l_gs_again c_gs_again k_gs_again
  have bd_gs_again := F_gs_again.binds (ps := ["descent", "given"]) fun _ _ _ _ _ _ us hl => match us, hl with | [_, _], _ => rfl
  have F_told_rule := fun_mk (st := s_told_rule) l_told_rule c_told_rule k_told_rule
  have bd_told_rule := F_told_rule.binds (ps := ["rule"]) fun _ _ _ _ _ _ us hl => match us, hl with | [_], _ => rfl
  have F_gs_state := fun_mk (st := s_gs_state) l_gs_state c_gs_state k_gs_state
  have bd_gs_state := F_gs_state.binds (ps := ["descent", "given"]) fun _ _ _ _ _ _ us hl => match us, hl with | [_, _], _ => rfl
  have F_answers := fun_mk (st := s_answers) l_answers c_answers k_answers
  have bd_answers := F_answers.binds (ps := ["calls"]) fun _ _ _ _ _ _ us hl => match us, hl with | [_], _ => rfl
  have c_OLDEST_FATHER' : IsI mg "OLDEST_FATHER" (12) := ⟨_, PySem.W.mg_of X G q_OLDEST_FATHER⟩
  have c_OLDEST_FIRST' : IsI mg "OLDEST_FIRST" (20) := ⟨_, PySem.W.mg_of X G q_OLDEST_FIRST⟩
  have c_WIDEST_GAP' : IsI mg "WIDEST_GAP" (10) := ⟨_, PySem.W.mg_of X G q_WIDEST_GAP⟩
  have c_OUT_OF_BOUNDS' : IsI mg "OUT_OF_BOUNDS" (-22) := ⟨_, PySem.W.mg_of X G q_OUT_OF_BOUNDS⟩
  have b_tuple' : mg "tuple" = none := PySem.W.mg_none_of X G z_tuple
  have b_len' : mg "len" = none := PySem.W.mg_none_of X G z_len
  have c_MOST_TAKEN_BACK' : IsI mg "MOST_TAKEN_BACK" (20) := ⟨_, PySem.W.mg_of X G q_MOST_TAKEN_BACK⟩
  have c_MOST_AT_ONE_AGE' : IsI mg "MOST_AT_ONE_AGE" (9) := ⟨_, PySem.W.mg_of X G q_MOST_AT_ONE_AGE⟩
  have b_sum' : mg "sum" = none := PySem.W.mg_none_of X G z_sum
  have c_MOST_SONS' : IsI mg "MOST_SONS" (40) := ⟨_, PySem.W.mg_of X G q_MOST_SONS⟩
  have c_TOO_MANY_SONS' : IsI mg "TOO_MANY_SONS" (-28) := ⟨_, PySem.W.mg_of X G q_TOO_MANY_SONS⟩
  have c_HIGHEST_GRADE' : IsI mg "HIGHEST_GRADE" (40) := ⟨_, PySem.W.mg_of X G q_HIGHEST_GRADE⟩
  have c_ALREADY_SO' : IsI mg "ALREADY_SO" (-17) := ⟨_, PySem.W.mg_of X G q_ALREADY_SO⟩
  have c_NO_RULE' : IsI mg "NO_RULE" (-6) := ⟨_, PySem.W.mg_of X G q_NO_RULE⟩
  have b_enumerate' : mg "enumerate" = none := PySem.W.mg_none_of X G z_enumerate
  have b_range' : mg "range" = none := PySem.W.mg_none_of X G z_range
  have c_LAST_GENERATION' : IsI mg "LAST_GENERATION" (3) := ⟨_, PySem.W.mg_of X G q_LAST_GENERATION⟩
  have c_OLDEST_ASKED' : IsI mg "OLDEST_ASKED" (80) := ⟨_, PySem.W.mg_of X G q_OLDEST_ASKED⟩
  have c_YOUNGEST_ASKED' : IsI mg "YOUNGEST_ASKED" (60) := ⟨_, PySem.W.mg_of X G q_YOUNGEST_ASKED⟩
  have b_abs' : mg "abs" = none := PySem.W.mg_none_of X G z_abs
  have c_NOTHING_TO_TELL' : IsI mg "NOTHING_TO_TELL" (-33) := ⟨_, PySem.W.mg_of X G q_NOTHING_TO_TELL⟩
  have b_min' : mg "min" = none := PySem.W.mg_none_of X G z_min
  have b_max' : mg "max" = none := PySem.W.mg_none_of X G z_max
  have c_LAST_FATHERS' : IsI mg "LAST_FATHERS" (2) := ⟨_, PySem.W.mg_of X G q_LAST_FATHERS⟩
  have b_list' : mg "list" = none := PySem.W.mg_none_of X G z_list
  have c_NO_CHANGE' : IsI mg "NO_CHANGE" (-2) := ⟨_, PySem.W.mg_of X G q_NO_CHANGE⟩
  refine ⟨PySem.W.fnOf "answers" "answers" (defArgs s_answers) (defBody s_answers) (defScope s_answers) .none kV_answers dc_answers pm_answers an_answers cd_answers ct_answers, fun s us hu => match us, hu with | [_], _ => .of_eq rfl, fun base _ _ => ?_⟩
  have G_Descent_begin := ok_Descent_begin (P := P) (w := w) (mg := mg) (base := base) (F := F_Descent_begin) (T := T) (c_OLDEST_FATHER := c_OLDEST_FATHER') (c_OLDEST_FIRST := c_OLDEST_FIRST')
  have h_Descent_begin : HasM P w K mg base C "begin" ["self", "gap"] 1 (spBegin C) := ⟨T.cl, _, _, ⟨a_Descent_begin, i_Descent_begin, k_Descent_begin⟩, bd_Descent_begin, G_Descent_begin⟩
  have G_Descent___init__ := ok_Descent___init__ (P := P) (w := w) (mg := mg) (base := base) (F := F_Descent___init__) (m_Descent_begin := h_Descent_begin)
  have h_cls : HasC P w K mg base C "Descent" ["self"] 2 (spMake (RP C) C) := ⟨_, _, PySem.W.mg_of X G aC, ⟨mk, a_Descent___init__, i_Descent___init__, kc⟩, bd_Descent___init__, G_Descent___init__⟩
  have G_is_gap : FnOk P w K mg base CX0 1 ad_is_gap _ ["g"] (spIsGap) := ok_is_gap (F := F_is_gap) (c_WIDEST_GAP := c_WIDEST_GAP')
  have h_is_gap : Has P w K mg base "is_gap" ["g"] 1 (spIsGap) := ⟨_, _, PySem.W.mg_of X G a_is_gap, k_is_gap, bd_is_gap, G_is_gap⟩
  have G_gs_start : FnOk P w K mg base CX0 2 ad_gs_start _ ["descent", "given"] (spCall (RP C) K 0) := ok_gs_start (F := F_gs_start) (f_is_gap := h_is_gap) (c_OUT_OF_BOUNDS := c_OUT_OF_BOUNDS') (m_Descent_begin := h_Descent_begin)
  have G_Descent_as_it_is := ok_Descent_as_it_is (P := P) (w := w) (mg := mg) (base := base) (F := F_Descent_as_it_is) (T := T) (b_tuple := b_tuple')
  have h_Descent_as_it_is : HasM P w K mg base C "as_it_is" ["self"] 1 (spSnap C) := ⟨T.cl, _, _, ⟨a_Descent_as_it_is, i_Descent_as_it_is, k_Descent_as_it_is⟩, bd_Descent_as_it_is, G_Descent_as_it_is⟩
  have G_Descent_mark_change := ok_Descent_mark_change (P := P) (w := w) (mg := mg) (base := base) (F := F_Descent_mark_change) (T := T) (m_Descent_as_it_is := h_Descent_as_it_is) (b_len := b_len') (c_MOST_TAKEN_BACK := c_MOST_TAKEN_BACK')
  have h_Descent_mark_change : HasM P w K mg base C "mark_change" ["self"] 2 (spMark C) := ⟨T.cl, _, _, ⟨a_Descent_mark_change, i_Descent_mark_change, k_Descent_mark_change⟩, bd_Descent_mark_change, G_Descent_mark_change⟩
  have G_gs_sons : FnOk P w K mg base CX0 3 ad_gs_sons _ ["descent", "given"] (spCall (RP C) K 1) := ok_gs_sons (F := F_gs_sons) (T := T) (c_MOST_AT_ONE_AGE := c_MOST_AT_ONE_AGE') (c_OLDEST_FATHER := c_OLDEST_FATHER') (c_OUT_OF_BOUNDS := c_OUT_OF_BOUNDS') (b_sum := b_sum') (c_MOST_SONS := c_MOST_SONS') (c_TOO_MANY_SONS := c_TOO_MANY_SONS') (m_Descent_mark_change := h_Descent_mark_change)
  have G_gs_rule : FnOk P w K mg base CX0 3 ad_gs_rule _ ["descent", "given"] (spCall (RP C) K 2) := ok_gs_rule (F := F_gs_rule) (T := T) (c_HIGHEST_GRADE := c_HIGHEST_GRADE') (c_OUT_OF_BOUNDS := c_OUT_OF_BOUNDS') (c_ALREADY_SO := c_ALREADY_SO') (m_Descent_mark_change := h_Descent_mark_change)
  have G_gs_free : FnOk P w K mg base CX0 3 ad_gs_free _ ["descent", "given"] (spCall (RP C) K 3) := ok_gs_free (F := F_gs_free) (T := T) (c_NO_RULE := c_NO_RULE') (m_Descent_mark_change := h_Descent_mark_change)
  have G_gs_first : FnOk P w K mg base CX0 3 ad_gs_first _ ["descent", "given"] (spCall (RP C) K 4) := ok_gs_first (F := F_gs_first) (T := T) (c_MOST_AT_ONE_AGE := c_MOST_AT_ONE_AGE') (c_OLDEST_FIRST := c_OLDEST_FIRST') (c_OUT_OF_BOUNDS := c_OUT_OF_BOUNDS') (m_Descent_mark_change := h_Descent_mark_change)
  have G_gs_gap : FnOk P w K mg base CX0 3 ad_gs_gap _ ["descent", "given"] (spCall (RP C) K 5) := ok_gs_gap (F := F_gs_gap) (T := T) (f_is_gap := h_is_gap) (c_OUT_OF_BOUNDS := c_OUT_OF_BOUNDS') (c_ALREADY_SO := c_ALREADY_SO') (m_Descent_mark_change := h_Descent_mark_change)
  have G_first_generation : FnOk P w K mg base CX0 1 ad_first_generation _ ["descent"] (spFirstG C) := ok_first_generation (F := F_first_generation) (T := T) (b_enumerate := b_enumerate')
  have h_first_generation : Has P w K mg base "first_generation" ["descent"] 1 (spFirstG C) := ⟨_, _, PySem.W.mg_of X G a_first_generation, k_first_generation, bd_first_generation, G_first_generation⟩
  have G_is_counted : FnOk P w K mg base CX0 1 ad_is_counted _ ["rule", "grade"] (spCounted) := ok_is_counted (F := F_is_counted) 
  have h_is_counted : Has P w K mg base "is_counted" ["rule", "grade"] 1 (spCounted) := ⟨_, _, PySem.W.mg_of X G a_is_counted, k_is_counted, bd_is_counted, G_is_counted⟩
  have G_next_generation : FnOk P w K mg base CX0 2 ad_next_generation _ ["descent", "fathers"] (spNextG C) := ok_next_generation (F := F_next_generation) (T := T) (b_enumerate := b_enumerate') (f_is_counted := h_is_counted)
  have h_next_generation : Has P w K mg base "next_generation" ["descent", "fathers"] 2 (spNextG C) := ⟨_, _, PySem.W.mg_of X G a_next_generation, k_next_generation, bd_next_generation, G_next_generation⟩
  have G_generation : FnOk P w K mg base CX0 3 ad_generation _ ["descent", "n"] (spGen C) := ok_generation (F := F_generation) (f_first_generation := h_first_generation) (b_range := b_range') (f_next_generation := h_next_generation)
  have h_generation : Has P w K mg base "generation" ["descent", "n"] 3 (spGen C) := ⟨_, _, PySem.W.mg_of X G a_generation, k_generation, bd_generation, G_generation⟩
  have G_gs_total : FnOk P w K mg base CX0 4 ad_gs_total _ ["descent", "given"] (spQ K C 1 fun xs => .total (xs.getD 0 0)) := ok_gs_total (F := F_gs_total) (c_LAST_GENERATION := c_LAST_GENERATION') (c_OUT_OF_BOUNDS := c_OUT_OF_BOUNDS') (b_sum := b_sum') (f_generation := h_generation)
  have G_gs_count : FnOk P w K mg base CX0 4 ad_gs_count _ ["descent", "given"] (spQ K C 2 fun xs => .count (xs.getD 0 0) (xs.getD 1 0)) := ok_gs_count (F := F_gs_count) (c_OLDEST_ASKED := c_OLDEST_ASKED') (c_LAST_GENERATION := c_LAST_GENERATION') (c_OUT_OF_BOUNDS := c_OUT_OF_BOUNDS') (f_generation := h_generation)
  have G_gs_younger : FnOk P w K mg base CX0 4 ad_gs_younger _ ["descent", "given"] (spQ K C 2 fun xs => .younger (xs.getD 0 0) (xs.getD 1 0)) := ok_gs_younger (F := F_gs_younger) (c_YOUNGEST_ASKED := c_YOUNGEST_ASKED') (c_LAST_GENERATION := c_LAST_GENERATION') (c_OUT_OF_BOUNDS := c_OUT_OF_BOUNDS') (f_generation := h_generation)
  have G_gs_between : FnOk P w K mg base CX0 4 ad_gs_between _ ["descent", "given"] (spQ K C 3 fun xs => .between (xs.getD 0 0) (xs.getD 1 0) (xs.getD 2 0)) := ok_gs_between (F := F_gs_between) (c_OLDEST_ASKED := c_OLDEST_ASKED') (c_LAST_GENERATION := c_LAST_GENERATION') (c_OUT_OF_BOUNDS := c_OUT_OF_BOUNDS') (f_generation := h_generation) (b_sum := b_sum')
  have G_common_divisor : FnOk P w K mg base CX0 1 ad_common_divisor _ ["a", "b"] (spGcd) := ok_common_divisor (F := F_common_divisor) 
  have h_common_divisor : Has P w K mg base "common_divisor" ["a", "b"] 1 (spGcd) := ⟨_, _, PySem.W.mg_of X G a_common_divisor, k_common_divisor, bd_common_divisor, G_common_divisor⟩
  have G_with_sign : FnOk P w K mg base CX0 1 ad_with_sign _ ["number"] (spSign) := ok_with_sign (F := F_with_sign) 
  have h_with_sign : Has P w K mg base "with_sign" ["number"] 1 (spSign) := ⟨_, _, PySem.W.mg_of X G a_with_sign, k_with_sign, bd_with_sign, G_with_sign⟩
  have G_ratio : FnOk P w K mg base CX0 2 ad_ratio _ ["above", "below"] (spRatio) := ok_ratio (F := F_ratio) (f_common_divisor := h_common_divisor) (b_abs := b_abs') (f_with_sign := h_with_sign)
  have h_ratio : Has P w K mg base "ratio" ["above", "below"] 2 (spRatio) := ⟨_, _, PySem.W.mg_of X G a_ratio, k_ratio, bd_ratio, G_ratio⟩
  have G_gs_mean : FnOk P w K mg base CX0 4 ad_gs_mean _ ["descent", "given"] (spQ K C 1 fun xs => .mean (xs.getD 0 0)) := ok_gs_mean (F := F_gs_mean) (c_LAST_GENERATION := c_LAST_GENERATION') (c_OUT_OF_BOUNDS := c_OUT_OF_BOUNDS') (f_generation := h_generation) (b_len := b_len') (c_NOTHING_TO_TELL := c_NOTHING_TO_TELL') (b_sum := b_sum') (f_ratio := h_ratio)
  have G_gs_spread : FnOk P w K mg base CX0 4 ad_gs_spread _ ["descent", "given"] (spQ K C 1 fun xs => .spread (xs.getD 0 0)) := ok_gs_spread (F := F_gs_spread) (c_LAST_GENERATION := c_LAST_GENERATION') (c_OUT_OF_BOUNDS := c_OUT_OF_BOUNDS') (f_generation := h_generation) (b_len := b_len') (c_NOTHING_TO_TELL := c_NOTHING_TO_TELL') (b_min := b_min') (b_max := b_max') (f_with_sign := h_with_sign)
  have G_gs_most : FnOk P w K mg base CX0 4 ad_gs_most _ ["descent", "given"] (spQ K C 1 fun xs => .most (xs.getD 0 0)) := ok_gs_most (F := F_gs_most) (c_LAST_GENERATION := c_LAST_GENERATION') (c_OUT_OF_BOUNDS := c_OUT_OF_BOUNDS') (f_generation := h_generation) (b_len := b_len') (c_NOTHING_TO_TELL := c_NOTHING_TO_TELL') (b_max := b_max') (b_min := b_min') (f_with_sign := h_with_sign)
  have G_lost_sons : FnOk P w K mg base CX0 2 ad_lost_sons _ ["descent", "fathers"] (spLostG C) := ok_lost_sons (F := F_lost_sons) (T := T) (b_enumerate := b_enumerate') (f_is_counted := h_is_counted)
  have h_lost_sons : Has P w K mg base "lost_sons" ["descent", "fathers"] 2 (spLostG C) := ⟨_, _, PySem.W.mg_of X G a_lost_sons, k_lost_sons, bd_lost_sons, G_lost_sons⟩
  have G_gs_lost : FnOk P w K mg base CX0 4 ad_gs_lost _ ["descent", "given"] (spQ K C 1 fun xs => .lost (xs.getD 0 0)) := ok_gs_lost (F := F_gs_lost) (c_LAST_FATHERS := c_LAST_FATHERS') (c_OUT_OF_BOUNDS := c_OUT_OF_BOUNDS') (f_generation := h_generation) (f_lost_sons := h_lost_sons) (b_sum := b_sum') (f_next_generation := h_next_generation)
  have G_ages_at_births : FnOk P w K mg base CX0 1 ad_ages_at_births _ ["descent"] (spBirths C) := ok_ages_at_births (F := F_ages_at_births) (T := T) (b_sum := b_sum') (b_enumerate := b_enumerate')
  have h_ages_at_births : Has P w K mg base "ages_at_births" ["descent"] 1 (spBirths C) := ⟨_, _, PySem.W.mg_of X G a_ages_at_births, k_ages_at_births, bd_ages_at_births, G_ages_at_births⟩
  have G_gs_balance : FnOk P w K mg base CX0 2 ad_gs_balance _ ["descent", "given"] (spQ K C 0 fun _ => .balance) := ok_gs_balance (F := F_gs_balance) (T := T) (b_sum := b_sum') (f_with_sign := h_with_sign) (f_ages_at_births := h_ages_at_births)
  have G_gs_each : FnOk P w K mg base CX0 3 ad_gs_each _ ["descent", "given"] (spQ K C 0 fun _ => .each) := ok_gs_each (F := F_gs_each) (T := T) (b_sum := b_sum') (c_NOTHING_TO_TELL := c_NOTHING_TO_TELL') (f_ratio := h_ratio) (f_ages_at_births := h_ages_at_births)
  have G_gs_told_sons : FnOk P w K mg base CX0 1 ad_gs_told_sons _ ["descent", "given"] (spQ K C 0 fun _ => .toldSons) := ok_gs_told_sons (F := F_gs_told_sons) (T := T) (b_len := b_len')
  have G_gs_bounds : FnOk P w K mg base CX0 2 ad_gs_bounds _ ["descent", "given"] (spQ K C 0 fun _ => .bounds) := ok_gs_bounds (F := F_gs_bounds) (T := T) (c_NOTHING_TO_TELL := c_NOTHING_TO_TELL') (f_with_sign := h_with_sign)
  have G_Descent_put_back := ok_Descent_put_back (P := P) (w := w) (mg := mg) (base := base) (F := F_Descent_put_back) (T := T) (b_list := b_list')
  have h_Descent_put_back : HasM P w K mg base C "put_back" ["self", "kept"] 1 (spPut C) := ⟨T.cl, _, _, ⟨a_Descent_put_back, i_Descent_put_back, k_Descent_put_back⟩, bd_Descent_put_back, G_Descent_put_back⟩
  have G_Descent_take_back := ok_Descent_take_back (P := P) (w := w) (mg := mg) (base := base) (F := F_Descent_take_back) (T := T) (m_Descent_as_it_is := h_Descent_as_it_is) (m_Descent_put_back := h_Descent_put_back)
  have h_Descent_take_back : HasM P w K mg base C "take_back" ["self"] 2 (spTake C) := ⟨T.cl, _, _, ⟨a_Descent_take_back, i_Descent_take_back, k_Descent_take_back⟩, bd_Descent_take_back, G_Descent_take_back⟩
  have G_gs_back : FnOk P w K mg base CX0 3 ad_gs_back _ ["descent", "given"] (spCall (RP C) K 18) := ok_gs_back (F := F_gs_back) (T := T) (b_len := b_len') (c_NO_CHANGE := c_NO_CHANGE') (m_Descent_take_back := h_Descent_take_back)
  have G_Descent_do_again := ok_Descent_do_again (P := P) (w := w) (mg := mg) (base := base) (F := F_Descent_do_again) (T := T) (m_Descent_as_it_is := h_Descent_as_it_is) (m_Descent_put_back := h_Descent_put_back)
  have h_Descent_do_again : HasM P w K mg base C "do_again" ["self"] 2 (spAgain C) := ⟨T.cl, _, _, ⟨a_Descent_do_again, i_Descent_do_again, k_Descent_do_again⟩, bd_Descent_do_again, G_Descent_do_again⟩
  have G_gs_again : FnOk P w K mg base CX0 3 ad_gs_again _ ["descent", "given"] (spCall (RP C) K 19) := ok_gs_again (F := F_gs_again) (T := T) (b_len := b_len') (c_NO_CHANGE := c_NO_CHANGE') (m_Descent_do_again := h_Descent_do_again)
  have G_told_rule : FnOk P w K mg base CX0 1 ad_told_rule _ ["rule"] (spTold) := ok_told_rule (F := F_told_rule) 
  have h_told_rule : Has P w K mg base "told_rule" ["rule"] 1 (spTold) := ⟨_, _, PySem.W.mg_of X G a_told_rule, k_told_rule, bd_told_rule, G_told_rule⟩
  have G_gs_state : FnOk P w K mg base CX0 2 ad_gs_state _ ["descent", "given"] (spCall (RP C) K 20) := ok_gs_state (F := F_gs_state) (T := T) (b_len := b_len') (f_told_rule := h_told_rule) (b_sum := b_sum')
  have tab_CALLS : IsT K mg "CALLS" aT_CALLS (([ad_gs_start, ad_gs_sons, ad_gs_rule, ad_gs_free, ad_gs_first, ad_gs_gap, ad_gs_total, ad_gs_count, ad_gs_younger, ad_gs_between, ad_gs_mean, ad_gs_spread, ad_gs_most, ad_gs_lost, ad_gs_balance, ad_gs_each, ad_gs_told_sons, ad_gs_bounds, ad_gs_back, ad_gs_again, ad_gs_state] : List Addr).map V.ref) := isT_of (PySem.W.mg_of X G at_CALLS) lt_CALLS (by show 21 ≤ sizeLine; decide) (.cons rfl (.cons rfl (.cons rfl (.cons rfl (.cons rfl (.cons rfl (.cons rfl (.cons rfl (.cons rfl (.cons rfl (.cons rfl (.cons rfl (.cons rfl (.cons rfl (.cons rfl (.cons rfl (.cons rfl (.cons rfl (.cons rfl (.cons rfl (.cons rfl .nil)))))))))))))))))))))
  have eS : sizesV = [V.int 1, V.int 2, V.int 2, V.int 0, V.int 2, V.int 1, V.int 1, V.int 2, V.int 2, V.int 3, V.int 1, V.int 1, V.int 1, V.int 1, V.int 0, V.int 0, V.int 0, V.int 0, V.int 0, V.int 0, V.int 0] := rfl
  have tab_SIZES : IsT K mg "SIZES" aT_SIZES sizesV := by
    rw [eS]
    exact isT_of (PySem.W.mg_of X G at_SIZES) lt_SIZES (by show 21 ≤ sizeLine; decide) (.cons ⟨_, rfl⟩ (.cons ⟨_, rfl⟩ (.cons ⟨_, rfl⟩ (.cons ⟨_, rfl⟩ (.cons ⟨_, rfl⟩ (.cons ⟨_, rfl⟩ (.cons ⟨_, rfl⟩ (.cons ⟨_, rfl⟩ (.cons ⟨_, rfl⟩ (.cons ⟨_, rfl⟩ (.cons ⟨_, rfl⟩ (.cons ⟨_, rfl⟩ (.cons ⟨_, rfl⟩ (.cons ⟨_, rfl⟩ (.cons ⟨_, rfl⟩ (.cons ⟨_, rfl⟩ (.cons ⟨_, rfl⟩ (.cons ⟨_, rfl⟩ (.cons ⟨_, rfl⟩ (.cons ⟨_, rfl⟩ (.cons ⟨_, rfl⟩ .nil)))))))))))))))))))))
  have hfs : ∀ j, j ≤ 20 → ∃ f, ([ad_gs_start, ad_gs_sons, ad_gs_rule, ad_gs_free, ad_gs_first, ad_gs_gap, ad_gs_total, ad_gs_count, ad_gs_younger, ad_gs_between, ad_gs_mean, ad_gs_spread, ad_gs_most, ad_gs_lost, ad_gs_balance, ad_gs_each, ad_gs_told_sons, ad_gs_bounds, ad_gs_back, ad_gs_again, ad_gs_state] : List Addr)[j]? = some f ∧ Held P w K mg base 5 f (spCall (RP C) K j) := by
    intro j hj
    match j, hj with
    | 0, _ => exact ⟨_, rfl, ⟨_, _, G_gs_start.mono (by decide), k_gs_start, bd_gs_start⟩⟩
    | 1, _ => exact ⟨_, rfl, ⟨_, _, G_gs_sons.mono (by decide), k_gs_sons, bd_gs_sons⟩⟩
    | 2, _ => exact ⟨_, rfl, ⟨_, _, G_gs_rule.mono (by decide), k_gs_rule, bd_gs_rule⟩⟩
    | 3, _ => exact ⟨_, rfl, ⟨_, _, G_gs_free.mono (by decide), k_gs_free, bd_gs_free⟩⟩
    | 4, _ => exact ⟨_, rfl, ⟨_, _, G_gs_first.mono (by decide), k_gs_first, bd_gs_first⟩⟩
    | 5, _ => exact ⟨_, rfl, ⟨_, _, G_gs_gap.mono (by decide), k_gs_gap, bd_gs_gap⟩⟩
    | 6, _ => exact ⟨_, rfl, ⟨_, _, (G_gs_total.imp (q_call rfl (fun _ => rfl) (fun _ _ => rfl) (fun _ => rfl))).mono (by decide), k_gs_total, bd_gs_total⟩⟩
    | 7, _ => exact ⟨_, rfl, ⟨_, _, (G_gs_count.imp (q_call rfl (fun _ => rfl) (fun _ _ => rfl) (fun _ => rfl))).mono (by decide), k_gs_count, bd_gs_count⟩⟩
    | 8, _ => exact ⟨_, rfl, ⟨_, _, (G_gs_younger.imp (q_call rfl (fun _ => rfl) (fun _ _ => rfl) (fun _ => rfl))).mono (by decide), k_gs_younger, bd_gs_younger⟩⟩
    | 9, _ => exact ⟨_, rfl, ⟨_, _, (G_gs_between.imp (q_call rfl (fun _ => rfl) (fun _ _ => rfl) (fun _ => rfl))).mono (by decide), k_gs_between, bd_gs_between⟩⟩
    | 10, _ => exact ⟨_, rfl, ⟨_, _, (G_gs_mean.imp (q_call rfl (fun _ => rfl) (fun _ _ => rfl) (fun _ => rfl))).mono (by decide), k_gs_mean, bd_gs_mean⟩⟩
    | 11, _ => exact ⟨_, rfl, ⟨_, _, (G_gs_spread.imp (q_call rfl (fun _ => rfl) (fun _ _ => rfl) (fun _ => rfl))).mono (by decide), k_gs_spread, bd_gs_spread⟩⟩
    | 12, _ => exact ⟨_, rfl, ⟨_, _, (G_gs_most.imp (q_call rfl (fun _ => rfl) (fun _ _ => rfl) (fun _ => rfl))).mono (by decide), k_gs_most, bd_gs_most⟩⟩
    | 13, _ => exact ⟨_, rfl, ⟨_, _, (G_gs_lost.imp (q_call rfl (fun _ => rfl) (fun _ _ => rfl) (fun _ => rfl))).mono (by decide), k_gs_lost, bd_gs_lost⟩⟩
    | 14, _ => exact ⟨_, rfl, ⟨_, _, (G_gs_balance.imp (q_call rfl (fun _ => rfl) (fun _ _ => rfl) (fun _ => rfl))).mono (by decide), k_gs_balance, bd_gs_balance⟩⟩
    | 15, _ => exact ⟨_, rfl, ⟨_, _, (G_gs_each.imp (q_call rfl (fun _ => rfl) (fun _ _ => rfl) (fun _ => rfl))).mono (by decide), k_gs_each, bd_gs_each⟩⟩
    | 16, _ => exact ⟨_, rfl, ⟨_, _, (G_gs_told_sons.imp (q_call rfl (fun _ => rfl) (fun _ _ => rfl) (fun _ => rfl))).mono (by decide), k_gs_told_sons, bd_gs_told_sons⟩⟩
    | 17, _ => exact ⟨_, rfl, ⟨_, _, (G_gs_bounds.imp (q_call rfl (fun _ => rfl) (fun _ _ => rfl) (fun _ => rfl))).mono (by decide), k_gs_bounds, bd_gs_bounds⟩⟩
    | 18, _ => exact ⟨_, rfl, ⟨_, _, G_gs_back.mono (by decide), k_gs_back, bd_gs_back⟩⟩
    | 19, _ => exact ⟨_, rfl, ⟨_, _, G_gs_again.mono (by decide), k_gs_again, bd_gs_again⟩⟩
    | 20, _ => exact ⟨_, rfl, ⟨_, _, G_gs_state.mono (by decide), k_gs_state, bd_gs_state⟩⟩
    | n + 21, h => exact absurd h (by omega)
  exact ok_answers (F := F_answers) (hfs := hfs) (k_Descent := h_cls) (b_len := b_len') (t_CALLS := tab_CALLS) (t_SIZES := tab_SIZES)
end Oos
open PySem PySem.W PyProof.Rows
set_option maxRecDepth 100000 in
set_option maxHeartbeats 8000000 in
theorem PySem.Challenge.cw_outofstep_s01_answers_holds : PySem.Challenge.rw_outofstep_s01_answers.Holds := by
  w_on; k_headS; (case hw => exact ⟨[.list [.int 0, .int 1]], by decide +kernel, by decide +kernel⟩)
  k_fillS
  refine L2.walk_specK (r := PySem.Challenge.rw_outofstep_s01_answers) (k := 6) (CX := L2.CX0) (ps := ["calls"]) (sp := Oos.spAns) (by decide +kernel) rfl rfl ⟨rfl, by decide, by decide⟩ (fun w h Y => PySem.W.kIn_of Y) ?F ?S (fun _ _ _ _ z => z)
  case F =>
    intro w mg fa h Y KX G hmg
    refine' Oos.all_mk KX G hmg ?aC ?a_Descent_begin ?i_Descent_begin ?l_Descent_begin ?c_Descent_begin ?k_Descent_begin ?a_Descent___init__ ?i_Descent___init__ ?l_Descent___init__ ?c_Descent___init__ ?k_Descent___init__ ?a_is_gap ?l_is_gap ?c_is_gap ?k_is_gap ?a_gs_start ?l_gs_start ?c_gs_start ?k_gs_start ?a_Descent_as_it_is ?i_Descent_as_it_is ?l_Descent_as_it_is ?c_Descent_as_it_is ?k_Descent_as_it_is ?a_Descent_mark_change ?i_Descent_mark_change ?l_Descent_mark_change ?c_Descent_mark_change ?k_Descent_mark_change ?a_gs_sons ?l_gs_sons ?c_gs_sons ?k_gs_sons ?a_gs_rule ?l_gs_rule ?c_gs_rule ?k_gs_rule ?a_gs_free ?l_gs_free ?c_gs_free ?k_gs_free ?a_gs_first ?l_gs_first ?c_gs_first ?k_gs_first ?a_gs_gap ?l_gs_gap ?c_gs_gap ?k_gs_gap ?a_first_generation ?l_first_generation ?c_first_generation ?k_first_generation ?a_is_counted ?l_is_counted ?c_is_counted ?k_is_counted ?a_next_generation ?l_next_generation ?c_next_generation ?k_next_generation ?a_generation ?l_generation ?c_generation ?k_generation ?a_gs_total ?l_gs_total ?c_gs_total ?k_gs_total ?a_gs_count ?l_gs_count ?c_gs_count ?k_gs_count ?a_gs_younger ?l_gs_younger ?c_gs_younger ?k_gs_younger ?a_gs_between ?l_gs_between ?c_gs_between ?k_gs_between ?a_common_divisor ?l_common_divisor ?c_common_divisor ?k_common_divisor ?a_with_sign ?l_with_sign ?c_with_sign ?k_with_sign ?a_ratio ?l_ratio ?c_ratio ?k_ratio ?a_gs_mean ?l_gs_mean ?c_gs_mean ?k_gs_mean ?a_gs_spread ?l_gs_spread ?c_gs_spread ?k_gs_spread ?a_gs_most ?l_gs_most ?c_gs_most ?k_gs_most ?a_lost_sons ?l_lost_sons ?c_lost_sons ?k_lost_sons ?a_gs_lost ?l_gs_lost ?c_gs_lost ?k_gs_lost ?a_ages_at_births ?l_ages_at_births ?c_ages_at_births ?k_ages_at_births ?a_gs_balance ?l_gs_balance ?c_gs_balance ?k_gs_balance ?a_gs_each ?l_gs_each ?c_gs_each ?k_gs_each ?a_gs_told_sons ?l_gs_told_sons ?c_gs_told_sons ?k_gs_told_sons ?a_gs_bounds ?l_gs_bounds ?c_gs_bounds ?k_gs_bounds ?a_Descent_put_back ?i_Descent_put_back ?l_Descent_put_back ?c_Descent_put_back ?k_Descent_put_back ?a_Descent_take_back ?i_Descent_take_back ?l_Descent_take_back ?c_Descent_take_back ?k_Descent_take_back ?a_gs_back ?l_gs_back ?c_gs_back ?k_gs_back ?a_Descent_do_again ?i_Descent_do_again ?l_Descent_do_again ?c_Descent_do_again ?k_Descent_do_again ?a_gs_again ?l_gs_again ?c_gs_again ?k_gs_again ?a_told_rule ?l_told_rule ?c_told_rule ?k_told_rule ?a_gs_state ?l_gs_state ?c_gs_state ?k_gs_state ?a_answers ?l_answers ?c_answers ?k_answers ?q_OLDEST_FATHER ?q_OLDEST_FIRST ?q_WIDEST_GAP ?q_OUT_OF_BOUNDS ?z_tuple ?z_len ?q_MOST_TAKEN_BACK ?q_MOST_AT_ONE_AGE ?z_sum ?q_MOST_SONS ?q_TOO_MANY_SONS ?q_HIGHEST_GRADE ?q_ALREADY_SO ?q_NO_RULE ?z_enumerate ?z_range ?q_LAST_GENERATION ?q_OLDEST_ASKED ?q_YOUNGEST_ASKED ?z_abs ?q_NOTHING_TO_TELL ?z_min ?z_max ?q_LAST_FATHERS ?z_list ?q_NO_CHANGE ?at_CALLS ?lt_CALLS ?at_SIZES ?lt_SIZES ?pg ?hd ?po ?sa ?mk ?kc ?n_gap ?n_sons ?n_firsts ?n_rule ?n_earlier ?n_later
    (case aC => k_is)
    (case a_Descent_begin => k_is)
    (case i_Descent_begin => k_is)
    (case l_Descent_begin => k_is)
    (case c_Descent_begin => k_is)
    (case k_Descent_begin => k_is)
    (case a_Descent___init__ => k_is)
    (case i_Descent___init__ => k_is)
    (case l_Descent___init__ => k_is)
    (case c_Descent___init__ => k_is)
    (case k_Descent___init__ => k_is)
    (case a_is_gap => k_is)
    (case l_is_gap => k_is)
    (case c_is_gap => k_is)
    (case k_is_gap => k_is)
    (case a_gs_start => k_is)
    (case l_gs_start => k_is)
    (case c_gs_start => k_is)
    (case k_gs_start => k_is)
    (case a_Descent_as_it_is => k_is)
    (case i_Descent_as_it_is => k_is)
    (case l_Descent_as_it_is => k_is)
    (case c_Descent_as_it_is => k_is)
    (case k_Descent_as_it_is => k_is)
    (case a_Descent_mark_change => k_is)
    (case i_Descent_mark_change => k_is)
    (case l_Descent_mark_change => k_is)
    (case c_Descent_mark_change => k_is)
    (case k_Descent_mark_change => k_is)
    (case a_gs_sons => k_is)
    (case l_gs_sons => k_is)
    (case c_gs_sons => k_is)
    (case k_gs_sons => k_is)
    (case a_gs_rule => k_is)
    (case l_gs_rule => k_is)
    (case c_gs_rule => k_is)
    (case k_gs_rule => k_is)
    (case a_gs_free => k_is)
    (case l_gs_free => k_is)
    (case c_gs_free => k_is)
    (case k_gs_free => k_is)
    (case a_gs_first => k_is)
    (case l_gs_first => k_is)
    (case c_gs_first => k_is)
    (case k_gs_first => k_is)
    (case a_gs_gap => k_is)
    (case l_gs_gap => k_is)
    (case c_gs_gap => k_is)
    (case k_gs_gap => k_is)
    (case a_first_generation => k_is)
    (case l_first_generation => k_is)
    (case c_first_generation => k_is)
    (case k_first_generation => k_is)
    (case a_is_counted => k_is)
    (case l_is_counted => k_is)
    (case c_is_counted => k_is)
    (case k_is_counted => k_is)
    (case a_next_generation => k_is)
    (case l_next_generation => k_is)
    (case c_next_generation => k_is)
    (case k_next_generation => k_is)
    (case a_generation => k_is)
    (case l_generation => k_is)
    (case c_generation => k_is)
    (case k_generation => k_is)
    (case a_gs_total => k_is)
    (case l_gs_total => k_is)
    (case c_gs_total => k_is)
    (case k_gs_total => k_is)
    (case a_gs_count => k_is)
    (case l_gs_count => k_is)
    (case c_gs_count => k_is)
    (case k_gs_count => k_is)
    (case a_gs_younger => k_is)
    (case l_gs_younger => k_is)
    (case c_gs_younger => k_is)
    (case k_gs_younger => k_is)
    (case a_gs_between => k_is)
    (case l_gs_between => k_is)
    (case c_gs_between => k_is)
    (case k_gs_between => k_is)
    (case a_common_divisor => k_is)
    (case l_common_divisor => k_is)
    (case c_common_divisor => k_is)
    (case k_common_divisor => k_is)
    (case a_with_sign => k_is)
    (case l_with_sign => k_is)
    (case c_with_sign => k_is)
    (case k_with_sign => k_is)
    (case a_ratio => k_is)
    (case l_ratio => k_is)
    (case c_ratio => k_is)
    (case k_ratio => k_is)
    (case a_gs_mean => k_is)
    (case l_gs_mean => k_is)
    (case c_gs_mean => k_is)
    (case k_gs_mean => k_is)
    (case a_gs_spread => k_is)
    (case l_gs_spread => k_is)
    (case c_gs_spread => k_is)
    (case k_gs_spread => k_is)
    (case a_gs_most => k_is)
    (case l_gs_most => k_is)
    (case c_gs_most => k_is)
    (case k_gs_most => k_is)
    (case a_lost_sons => k_is)
    (case l_lost_sons => k_is)
    (case c_lost_sons => k_is)
    (case k_lost_sons => k_is)
    (case a_gs_lost => k_is)
    (case l_gs_lost => k_is)
    (case c_gs_lost => k_is)
    (case k_gs_lost => k_is)
    (case a_ages_at_births => k_is)
    (case l_ages_at_births => k_is)
    (case c_ages_at_births => k_is)
    (case k_ages_at_births => k_is)
    (case a_gs_balance => k_is)
    (case l_gs_balance => k_is)
    (case c_gs_balance => k_is)
    (case k_gs_balance => k_is)
    (case a_gs_each => k_is)
    (case l_gs_each => k_is)
    (case c_gs_each => k_is)
    (case k_gs_each => k_is)
    (case a_gs_told_sons => k_is)
    (case l_gs_told_sons => k_is)
    (case c_gs_told_sons => k_is)
    (case k_gs_told_sons => k_is)
    (case a_gs_bounds => k_is)
    (case l_gs_bounds => k_is)
    (case c_gs_bounds => k_is)
    (case k_gs_bounds => k_is)
    (case a_Descent_put_back => k_is)
    (case i_Descent_put_back => k_is)
    (case l_Descent_put_back => k_is)
    (case c_Descent_put_back => k_is)
    (case k_Descent_put_back => k_is)
    (case a_Descent_take_back => k_is)
    (case i_Descent_take_back => k_is)
    (case l_Descent_take_back => k_is)
    (case c_Descent_take_back => k_is)
    (case k_Descent_take_back => k_is)
    (case a_gs_back => k_is)
    (case l_gs_back => k_is)
    (case c_gs_back => k_is)
    (case k_gs_back => k_is)
    (case a_Descent_do_again => k_is)
    (case i_Descent_do_again => k_is)
    (case l_Descent_do_again => k_is)
    (case c_Descent_do_again => k_is)
    (case k_Descent_do_again => k_is)
    (case a_gs_again => k_is)
    (case l_gs_again => k_is)
    (case c_gs_again => k_is)
    (case k_gs_again => k_is)
    (case a_told_rule => k_is)
    (case l_told_rule => k_is)
    (case c_told_rule => k_is)
    (case k_told_rule => k_is)
    (case a_gs_state => k_is)
    (case l_gs_state => k_is)
    (case c_gs_state => k_is)
    (case k_gs_state => k_is)
    (case a_answers => k_is)
    (case l_answers => k_is)
    (case c_answers => k_is)
    (case k_answers => k_is)
    (case q_OLDEST_FATHER => k_is)
    (case q_OLDEST_FIRST => k_is)
    (case q_WIDEST_GAP => k_is)
    (case q_OUT_OF_BOUNDS => k_is)
    (case z_tuple => k_is)
    (case z_len => k_is)
    (case q_MOST_TAKEN_BACK => k_is)
    (case q_MOST_AT_ONE_AGE => k_is)
    (case z_sum => k_is)
    (case q_MOST_SONS => k_is)
    (case q_TOO_MANY_SONS => k_is)
    (case q_HIGHEST_GRADE => k_is)
    (case q_ALREADY_SO => k_is)
    (case q_NO_RULE => k_is)
    (case z_enumerate => k_is)
    (case z_range => k_is)
    (case q_LAST_GENERATION => k_is)
    (case q_OLDEST_ASKED => k_is)
    (case q_YOUNGEST_ASKED => k_is)
    (case z_abs => k_is)
    (case q_NOTHING_TO_TELL => k_is)
    (case z_min => k_is)
    (case z_max => k_is)
    (case q_LAST_FATHERS => k_is)
    (case z_list => k_is)
    (case q_NO_CHANGE => k_is)
    (case at_CALLS => k_is)
    (case lt_CALLS => k_is)
    (case at_SIZES => k_is)
    (case lt_SIZES => k_is)
    (case pg => k_is)
    (case hd => k_is)
    (case po => k_is)
    (case sa => k_is)
    (case mk => k_is)
    (case kc => k_is)
    (case n_gap => k_is)
    (case n_sons => k_is)
    (case n_firsts => k_is)
    (case n_rule => k_is)
    (case n_earlier => k_is)
    (case n_later => k_is)
  case S =>
    intro K H xs a hO hwi hask hx
    cases hx with
    | cons h1 h2 =>
      cases h2
      cases h1 with
      | lst hs ha =>
        have e := L2.ints_dw a.1 _ ha
        subst e
        have q : ((Codec.inLen 0 6000 a.1 && a.1.all (Codec.inInt 0 4294967295)) && true) = true := hwi
        rw [Bool.and_eq_true, Bool.and_eq_true] at q
        refine ⟨_, a.1, rfl, hs, fun x hx => (Codec.inInt_iff.mp (List.all_eq_true.mp q.1.2 x hx)).1, hask, fun H' p hp => .lst (L2.SqL.of hp) (L2.dw_ints _)⟩
