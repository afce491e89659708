import PyProof.Rows.All
import Wide.All
import OpenK.AllK
import Wide.FinOn
import Open.SpecLaws
import KE.OsGo
import HandS.ForSpec
import HandS.ForMost
import HandS.Deep
import HandS.Evl
import HandS.Zip
import HandS.Conv
import HandS.Strs
import HandS.More
import HandS.Codes
import HandS.Walk
import HandS.TupAny
import KE.GoesZip
import KE.GoesMore
import KE.GoesEnumKw
import KE.KDictZip
import KE.KMinKey
import HandS.Nested
import HandS.Lambda
import HandS.Spec
import KE.KNest
import PySem.Challenge.RW_kindplans_s01_answers
/-! The plan's mathematics: the specification's table tells the cheapest cost from each state, and its walk tells the first of the cheapest plans. -/
namespace KP
open Pn

/-! ### small things about lists -/
theorem nodup_bound : ∀ (N : Nat) (l : List Nat), l.Nodup → (∀ x ∈ l, x < N) → l.length ≤ N
  | 0, l, _, h => by
    cases l with
    | nil => exact Nat.le_refl _
    | cons a r => exact absurd (h a (List.mem_cons_self ..)) (Nat.not_lt_zero _)
  | N + 1, l, nd, h => by
    by_cases m : N ∈ l
    · have h1 : (l.erase N).length ≤ N := nodup_bound N (l.erase N) (nd.erase N) (fun x hx => by
        have h2 := (List.Nodup.mem_erase_iff nd).mp hx
        have h3 := h x h2.2
        have h4 : x ≠ N := h2.1
        omega)
      have h5 := List.length_erase_of_mem m
      omega
    · have := nodup_bound N l nd (fun x hx => by
        have h3 := h x hx
        have h4 : x ≠ N := fun e => m (e ▸ hx)
        omega)
      omega

theorem sum_cons (a : Nat) (l : List Nat) : sum (a :: l) = a + sum l := by
  have g : ∀ (l : List Nat) (z : Nat), l.foldl (fun a b => a + b) z = z + l.foldl (fun a b => a + b) 0 := by
    intro l
    induction l with
    | nil => intro z; rfl
    | cons b r ih =>
      intro z
      show r.foldl (fun a b => a + b) (z + b) = z + r.foldl (fun a b => a + b) (0 + b)
      rw [ih (z + b), ih (0 + b)]
      omega
  show l.foldl (fun a b => a + b) (0 + a) = a + l.foldl (fun a b => a + b) 0
  rw [g l (0 + a)]
  omega
theorem price_cons (t : Task) (k : Nat) (l : List Nat) : t.price (k :: l) = (t.act k).cost + t.price l := sum_cons _ _
theorem price_nil (t : Task) : t.price [] = 0 := rfl

/-- all acts are within the facts, and cost something -/
def Good (t : Task) : Prop := ∀ a ∈ t.acts, a.add < 2 ^ t.facts ∧ 1 ≤ a.cost

theorem then_lt {a : Act} {s n : Nat} (hs : s < 2 ^ n) (ha : a.add < 2 ^ n) : a.then_ s < 2 ^ n := by
  unfold Act.then_
  exact Nat.or_lt_two_pow (Nat.lt_of_le_of_lt (Nat.sub_le _ _) hs) ha

theorem act_mem {t : Task} {k : Nat} (h : k < t.acts.length) : t.act k ∈ t.acts := by
  unfold Task.act
  rw [List.getD_eq_getElem?_getD, List.getElem?_eq_getElem h]
  exact List.getElem_mem h
theorem mem_act {t : Task} {a : Act} (h : a ∈ t.acts) : ∃ k, k < t.acts.length ∧ t.act k = a := by
  obtain ⟨k, hk, e⟩ := List.mem_iff_getElem.mp h
  refine ⟨k, hk, ?_⟩
  unfold Task.act
  rw [List.getD_eq_getElem?_getD, List.getElem?_eq_getElem hk, e]
  rfl
theorem can_iff {t : Task} {s k : Nat} : t.can s k = true ↔ k < t.acts.length ∧ (t.act k).may s = true := by
  unfold Task.can
  rw [Bool.and_eq_true, decide_eq_true_iff]

/-! ### plans -/
theorem plan_nil {t : Task} {s : Nat} : t.plan s [] = t.done s := rfl
theorem plan_cons {t : Task} {s k : Nat} {l : List Nat} : t.plan s (k :: l) = (t.can s k && t.plan ((t.act k).then_ s) l) := by
  show (match (if t.can s k = true then t.goes ((t.act k).then_ s) l else none) with
    | some u => t.done u
    | none => false) = (t.can s k && t.plan ((t.act k).then_ s) l)
  by_cases c : t.can s k = true
  · rw [if_pos c, c]
    rfl
  · rw [if_neg c]
    have e : t.can s k = false := by simpa using c
    rw [e]
    rfl
theorem plan_cons_iff {t : Task} {s k : Nat} {l : List Nat} : t.plan s (k :: l) = true ↔ t.can s k = true ∧ t.plan ((t.act k).then_ s) l = true := by
  rw [plan_cons, Bool.and_eq_true]

/-- the states that a plan goes through -/
def tr (t : Task) : Nat → List Nat → List Nat
  | s, [] => [s]
  | s, k :: l => s :: tr t ((t.act k).then_ s) l
theorem tr_length (t : Task) : ∀ (l : List Nat) (s : Nat), (tr t s l).length = l.length + 1
  | [], _ => rfl
  | k :: l, s => by
    show (tr t ((t.act k).then_ s) l).length + 1 = l.length + 1 + 1
    rw [tr_length t l]
theorem tr_lt {t : Task} (g : Good t) : ∀ (l : List Nat) (s : Nat), s < 2 ^ t.facts → t.plan s l = true → ∀ u ∈ tr t s l, u < 2 ^ t.facts
  | [], s, hs, _, u, hu => by
    have : u = s := by simpa [tr] using hu
    omega
  | k :: l, s, hs, hp, u, hu => by
    obtain ⟨hc, hp2⟩ := plan_cons_iff.mp hp
    have hu2 : u = s ∨ u ∈ tr t ((t.act k).then_ s) l := by simpa [tr] using hu
    rcases hu2 with e | hu3
    · omega
    · exact tr_lt g l _ (then_lt hs (g _ (act_mem (can_iff.mp hc).1)).1) hp2 u hu3
theorem suffix_of {t : Task} : ∀ (l : List Nat) (s u : Nat), t.plan s l = true → u ∈ tr t s l → ∃ l', t.plan u l' = true ∧ t.price l' ≤ t.price l ∧ l'.length ≤ l.length
  | [], s, u, hp, hu => by
    have e : u = s := by simpa [tr] using hu
    subst e
    exact ⟨[], hp, Nat.le_refl _, Nat.le_refl _⟩
  | k :: l, s, u, hp, hu => by
    have hu2 : u = s ∨ u ∈ tr t ((t.act k).then_ s) l := by simpa [tr] using hu
    rcases hu2 with e | hu3
    · subst e
      exact ⟨k :: l, hp, Nat.le_refl _, Nat.le_refl _⟩
    · obtain ⟨l', h1, h2, h3⟩ := suffix_of l _ u (plan_cons_iff.mp hp).2 hu3
      refine ⟨l', h1, ?_, ?_⟩
      · rw [price_cons]; omega
      · simp only [List.length_cons]; omega
theorem shorter {t : Task} : ∀ (l : List Nat) (s : Nat), t.plan s l = true → ¬ (tr t s l).Nodup → ∃ l', t.plan s l' = true ∧ t.price l' ≤ t.price l ∧ l'.length < l.length
  | [], s, _, hn => absurd (by simp [tr]) hn
  | k :: l, s, hp, hn => by
    obtain ⟨hc, hp2⟩ := plan_cons_iff.mp hp
    by_cases hm : s ∈ tr t ((t.act k).then_ s) l
    · obtain ⟨l', h1, h2, h3⟩ := suffix_of l _ s hp2 hm
      refine ⟨l', h1, ?_, ?_⟩
      · rw [price_cons]; omega
      · simp only [List.length_cons]; omega
    · have hn2 : ¬ (tr t ((t.act k).then_ s) l).Nodup := fun nd => hn (List.nodup_cons.mpr ⟨hm, nd⟩)
      obtain ⟨l', h1, h2, h3⟩ := shorter l _ hp2 hn2
      refine ⟨k :: l', plan_cons_iff.mpr ⟨hc, h1⟩, ?_, ?_⟩
      · rw [price_cons, price_cons]; omega
      · simp only [List.length_cons]; omega
theorem short_plan {t : Task} (g : Good t) {s : Nat} (hs : s < 2 ^ t.facts) : ∀ (m : Nat) (l : List Nat), l.length ≤ m → t.plan s l = true → ∃ l', t.plan s l' = true ∧ t.price l' ≤ t.price l ∧ l'.length < 2 ^ t.facts
  | m, l, hm, hp => by
    by_cases nd : (tr t s l).Nodup
    · have h1 := nodup_bound _ _ nd (tr_lt g l s hs hp)
      rw [tr_length] at h1
      exact ⟨l, hp, Nat.le_refl _, by omega⟩
    · obtain ⟨l', h1, h2, h3⟩ := shorter l s hp nd
      cases m with
      | zero => omega
      | succ m =>
        obtain ⟨l2, a, b, c⟩ := short_plan g hs m l' (by omega) h1
        exact ⟨l2, a, by omega, c⟩

/-! ### the table -/
def Sound (t : Task) (d : Array (Option Nat)) : Prop := ∀ s c, s < 2 ^ t.facts → at_ d s = some c → ∃ l, t.plan s l = true ∧ t.price l = c
def Upto (t : Task) (d : Array (Option Nat)) (m : Nat) : Prop := ∀ s l, s < 2 ^ t.facts → t.plan s l = true → l.length ≤ m → ∃ c, at_ d s = some c ∧ c ≤ t.price l

theorem least_some {a b : Option Nat} {c : Nat} (h : least a b = some c) : a = some c ∨ b = some c := by
  cases a with
  | none => exact .inr h
  | some x =>
    cases b with
    | none => exact .inl h
    | some y =>
      have e : min x y = c := Option.some.inj h
      by_cases z : x ≤ y
      · exact .inl (by rw [← e, Nat.min_eq_left z])
      · exact .inr (by rw [← e, Nat.min_eq_right (by omega)])
theorem least_left {a b : Option Nat} {x : Nat} (h : a = some x) : ∃ c, least a b = some c ∧ c ≤ x := by
  subst h
  cases b with
  | none => exact ⟨x, rfl, Nat.le_refl _⟩
  | some y => exact ⟨min x y, rfl, Nat.min_le_left _ _⟩
theorem least_right {a b : Option Nat} {y : Nat} (h : b = some y) : ∃ c, least a b = some c ∧ c ≤ y := by
  subst h
  cases a with
  | none => exact ⟨y, rfl, Nat.le_refl _⟩
  | some x => exact ⟨min x y, rfl, Nat.min_le_right _ _⟩

/-- one act's turn in a round -/
def turn (d : Array (Option Nat)) (s : Nat) (b : Option Nat) (a : Act) : Option Nat := if a.may s = true then least b ((at_ d (a.then_ s)).map fun c => a.cost + c) else b
theorem fold_keep {d : Array (Option Nat)} {s : Nat} : ∀ (as : List Act) (b : Option Nat) (x : Nat), b = some x → ∃ c, as.foldl (turn d s) b = some c ∧ c ≤ x
  | [], _, x, h => ⟨x, h, Nat.le_refl _⟩
  | a :: as, b, x, h => by
    show ∃ c, as.foldl (turn d s) (turn d s b a) = some c ∧ c ≤ x
    by_cases m : a.may s = true
    · have e : turn d s b a = least b ((at_ d (a.then_ s)).map fun c => a.cost + c) := if_pos m
      obtain ⟨y, h1, h2⟩ := least_left (b := (at_ d (a.then_ s)).map fun c => a.cost + c) h
      obtain ⟨c, h3, h4⟩ := fold_keep as (turn d s b a) y (by rw [e, h1])
      exact ⟨c, h3, by omega⟩
    · have e : turn d s b a = b := if_neg m
      rw [e]
      exact fold_keep as b x h
theorem fold_from {d : Array (Option Nat)} {s : Nat} : ∀ (as : List Act) (b : Option Nat) (c : Nat), as.foldl (turn d s) b = some c → b = some c ∨ ∃ a ∈ as, a.may s = true ∧ ∃ c', at_ d (a.then_ s) = some c' ∧ c = a.cost + c'
  | [], _, _, h => .inl h
  | a :: as, b, c, h => by
    have h' : as.foldl (turn d s) (turn d s b a) = some c := h
    rcases fold_from as _ c h' with h1 | ⟨a', m, h2⟩
    · by_cases my : a.may s = true
      · have e : turn d s b a = least b ((at_ d (a.then_ s)).map fun c => a.cost + c) := if_pos my
        rw [e] at h1
        rcases least_some h1 with h3 | h3
        · exact .inl h3
        · obtain ⟨c', h4, h5⟩ := Option.map_eq_some_iff.mp h3
          exact .inr ⟨a, List.mem_cons_self .., my, c', h4, h5.symm⟩
      · have e : turn d s b a = b := if_neg my
        rw [e] at h1
        exact .inl h1
    · exact .inr ⟨a', List.mem_cons_of_mem _ m, h2⟩
theorem fold_takes {d : Array (Option Nat)} {s : Nat} : ∀ (as : List Act) (b : Option Nat) (a : Act) (c' : Nat), a ∈ as → a.may s = true → at_ d (a.then_ s) = some c' → ∃ c, as.foldl (turn d s) b = some c ∧ c ≤ a.cost + c'
  | a0 :: as, b, a, c', hm, my, hd => by
    rcases List.mem_cons.mp hm with e | hm2
    · subst e
      have e : turn d s b a = least b ((at_ d (a.then_ s)).map fun c => a.cost + c) := if_pos my
      obtain ⟨y, h1, h2⟩ := least_right (a := b) (b := (at_ d (a.then_ s)).map fun c => a.cost + c) (y := a.cost + c') (by rw [hd]; rfl)
      obtain ⟨c, h3, h4⟩ := fold_keep (d := d) (s := s) as (turn d s b a) y (by rw [e, h1])
      exact ⟨c, h3, by omega⟩
    · exact fold_takes as (turn d s b a0) a c' hm2 my hd

theorem at_ofList (n : Nat) (f : Nat → Option Nat) (s : Nat) (hs : s < n) : at_ ((List.range n).map f).toArray s = f s := by
  unfold at_
  rw [Array.getD_eq_getD_getElem?, List.getElem?_toArray, List.getElem?_map, List.getElem?_range hs]
  rfl
theorem at_round (t : Task) (d : Array (Option Nat)) (s : Nat) (hs : s < 2 ^ t.facts) : at_ (t.round d) s = t.acts.foldl (turn d s) (at_ d s) := at_ofList _ _ s hs

def table0 (t : Task) : Array (Option Nat) := ((List.range (2 ^ t.facts)).map fun s => if t.done s = true then some 0 else none).toArray
theorem sound0 (t : Task) : Sound t (table0 t) := fun s c hs h => by
  rw [table0, at_ofList _ _ s hs] at h
  by_cases e : t.done s = true
  · rw [if_pos e] at h
    exact ⟨[], e, by rw [price_nil]; exact Option.some.inj h⟩
  · rw [if_neg e] at h
    cases h
theorem upto0 (t : Task) : Upto t (table0 t) 0 := fun s l hs hp hl => by
  have e : l = [] := List.length_eq_zero_iff.mp (by omega)
  subst e
  refine ⟨0, ?_, Nat.zero_le _⟩
  rw [table0, at_ofList _ _ s hs]
  exact if_pos hp
theorem sound_round {t : Task} (g : Good t) {d : Array (Option Nat)} (h : Sound t d) : Sound t (t.round d) := fun s c hs e => by
  rw [at_round t d s hs] at e
  rcases fold_from _ _ _ e with h1 | ⟨a, hm, my, c', hd, ec⟩
  · exact h s c hs h1
  · obtain ⟨k, hk, ek⟩ := mem_act hm
    obtain ⟨l, hp, hl⟩ := h _ c' (then_lt hs (g a hm).1) hd
    refine ⟨k :: l, plan_cons_iff.mpr ⟨can_iff.mpr ⟨hk, by rw [ek]; exact my⟩, by rw [ek]; exact hp⟩, ?_⟩
    rw [price_cons, ek, hl, ec]
theorem upto_round {t : Task} (g : Good t) {d : Array (Option Nat)} {m : Nat} (h : Upto t d m) : Upto t (t.round d) (m + 1) := fun s l hs hp hl => by
  rw [at_round t d s hs]
  cases l with
  | nil =>
    obtain ⟨c, h1, h2⟩ := h s [] hs hp (Nat.zero_le _)
    obtain ⟨c2, h3, h4⟩ := fold_keep (d := d) (s := s) t.acts _ c h1
    exact ⟨c2, h3, by omega⟩
  | cons k r =>
    obtain ⟨hc, hp2⟩ := plan_cons_iff.mp hp
    obtain ⟨hk, my⟩ := can_iff.mp hc
    have ha := act_mem hk
    obtain ⟨c, h1, h2⟩ := h _ r (then_lt hs (g _ ha).1) hp2 (by simp only [List.length_cons] at hl; omega)
    obtain ⟨c2, h3, h4⟩ := fold_takes t.acts (at_ d s) _ c ha my h1
    exact ⟨c2, h3, by rw [price_cons]; omega⟩
/-- what a table has, a round keeps or betters -/
theorem upto_zero {t : Task} {d : Array (Option Nat)} {m : Nat} (h : Upto t d m) : ∀ s, s < 2 ^ t.facts → t.done s = true → ∃ c, at_ d s = some c ∧ c ≤ 0 := fun s hs hd => by
  obtain ⟨c, h1, h2⟩ := h s [] hs hd (Nat.zero_le _)
  exact ⟨c, h1, h2⟩
theorem upto_all {t : Task} (g : Good t) {d : Array (Option Nat)} (h0 : Upto t d 0) (e : t.round d = d) : ∀ m, Upto t d m
  | 0 => h0
  | m + 1 => by
    have h := upto_round g (upto_all g h0 e m)
    rw [e] at h
    exact h
theorem settle_ok {t : Task} (g : Good t) : ∀ (n m : Nat) (d : Array (Option Nat)), Sound t d → Upto t d m → Sound t (settle t.round n d) ∧ Upto t (settle t.round n d) (n + m)
  | 0, m, d, h1, h2 => ⟨h1, by rw [Nat.zero_add]; exact h2⟩
  | n + 1, m, d, h1, h2 => by
    show Sound t (if t.round d = d then d else settle t.round n (t.round d)) ∧ Upto t (if t.round d = d then d else settle t.round n (t.round d)) (n + 1 + m)
    by_cases e : t.round d = d
    · rw [if_pos e]
      refine ⟨h1, upto_all g (fun s l hs hp hl => h2 s l hs hp (by omega)) e _⟩
    · rw [if_neg e]
      have q := settle_ok g n (m + 1) (t.round d) (sound_round g h1) (upto_round g h2)
      have e2 : n + (m + 1) = n + 1 + m := by omega
      rw [e2] at q
      exact q
/-- **the table tells the cheapest cost** -/
structure Dist (t : Task) (d : Array (Option Nat)) : Prop where
  sound : ∀ s c, s < 2 ^ t.facts → at_ d s = some c → ∃ l, t.plan s l = true ∧ t.price l = c
  whole : ∀ s l, s < 2 ^ t.facts → t.plan s l = true → ∃ c, at_ d s = some c ∧ c ≤ t.price l
theorem costs_dist {t : Task} (g : Good t) : Dist t t.costs := by
  obtain ⟨h1, h2⟩ := settle_ok g (2 ^ t.facts + 1) 0 (table0 t) (sound0 t) (upto0 t)
  refine ⟨h1, fun s l hs hp => ?_⟩
  obtain ⟨l', a, b, c⟩ := short_plan g hs l.length l (Nat.le_refl _) hp
  obtain ⟨c2, h3, h4⟩ := h2 s l' hs a (by omega)
  exact ⟨c2, h3, by omega⟩
theorem Dist.none_iff {t : Task} {d : Array (Option Nat)} (D : Dist t d) {s : Nat} (hs : s < 2 ^ t.facts) : at_ d s = none ↔ ∀ l, t.plan s l = false := by
  constructor
  · intro e l
    cases h : t.plan s l with
    | false => rfl
    | true =>
      obtain ⟨c, h1, _⟩ := D.whole s l hs h
      rw [e] at h1
      cases h1
  · intro h
    cases e : at_ d s with
    | none => rfl
    | some c =>
      obtain ⟨l, h1, _⟩ := D.sound s c hs e
      rw [h l] at h1
      cases h1

/-! ### the first of the cheapest -/
inductive Lex : List Nat → List Nat → Prop
  | nil {b l} : Lex [] (b :: l)
  | lt {a b l l'} : a < b → Lex (a :: l) (b :: l')
  | eq {a l l'} : Lex l l' → Lex (a :: l) (a :: l')
theorem Lex.irrefl : ∀ {l : List Nat}, ¬ Lex l l
  | [], h => nomatch h
  | a :: l, h => by
    cases h with
    | lt h => exact Nat.lt_irrefl _ h
    | eq h => exact Lex.irrefl h
theorem Lex.asymm : ∀ {l l' : List Nat}, Lex l l' → ¬ Lex l' l
  | [], _, .nil, h => nomatch h
  | _, _, .lt h1, h => by
    cases h with
    | lt h2 => omega
    | eq h2 => omega
  | _, _, .eq h1, h => by
    cases h with
    | lt h2 => omega
    | eq h2 => exact Lex.asymm h1 h2
/-- l is the first of the cheapest plans from s -/
structure First (t : Task) (s : Nat) (l : List Nat) : Prop where
  plan : t.plan s l = true
  cheap : ∀ l', t.plan s l' = true → t.price l ≤ t.price l'
  first : ∀ l', t.plan s l' = true → t.price l' = t.price l → l' = l ∨ Lex l l'
theorem First.unique {t : Task} {s : Nat} {l l' : List Nat} (h : First t s l) (h' : First t s l') : l = l' := by
  have e : t.price l = t.price l' := Nat.le_antisymm (h.cheap l' h'.plan) (h'.cheap l h.plan)
  rcases h.first l' h'.plan e.symm with q | q
  · exact q.symm
  · rcases h'.first l h.plan e with r | r
    · exact r
    · exact absurd r q.asymm

/-- how many states are cheaper than c -/
def cnt (t : Task) (d : Array (Option Nat)) (c : Nat) : Nat := ((List.range (2 ^ t.facts)).filter fun u => match at_ d u with
  | some x => decide (x < c)
  | none => false).length
theorem cnt_le (t : Task) (d : Array (Option Nat)) (c : Nat) : cnt t d c ≤ 2 ^ t.facts := by
  have h := List.length_filter_le (fun u => match at_ d u with | some x => decide (x < c) | none => false) (List.range (2 ^ t.facts))
  rw [List.length_range] at h
  exact h
theorem filter_lt {p q : Nat → Bool} (h : ∀ u, p u = true → q u = true) : ∀ (l : List Nat) (u : Nat), u ∈ l → p u = false → q u = true → (l.filter p).length < (l.filter q).length
  | x :: l, u, hu, hp, hq => by
    have mono : ∀ l : List Nat, (l.filter p).length ≤ (l.filter q).length := by
      intro l
      induction l with
      | nil => exact Nat.le_refl _
      | cons a r ih =>
        by_cases pa : p a = true
        · rw [List.filter_cons_of_pos pa, List.filter_cons_of_pos (h a pa)]
          simp only [List.length_cons]; omega
        · rw [List.filter_cons_of_neg pa]
          by_cases qa : q a = true
          · rw [List.filter_cons_of_pos qa]
            simp only [List.length_cons]; omega
          · rw [List.filter_cons_of_neg qa]
            exact ih
    rcases List.mem_cons.mp hu with e | hu2
    · subst e
      rw [List.filter_cons_of_neg (by rw [hp]; exact Bool.false_ne_true), List.filter_cons_of_pos hq]
      have := mono l
      simp only [List.length_cons]; omega
    · have ih := filter_lt h l u hu2 hp hq
      by_cases pa : p x = true
      · rw [List.filter_cons_of_pos pa, List.filter_cons_of_pos (h x pa)]
        simp only [List.length_cons]; omega
      · rw [List.filter_cons_of_neg pa]
        by_cases qa : q x = true
        · rw [List.filter_cons_of_pos qa]
          simp only [List.length_cons]; omega
        · rw [List.filter_cons_of_neg qa]
          exact ih
theorem cnt_lt {t : Task} {d : Array (Option Nat)} {u c c' : Nat} (hu : u < 2 ^ t.facts) (e : at_ d u = some c') (h : c' < c) : cnt t d c' < cnt t d c := by
  unfold cnt
  refine filter_lt (fun v hv => ?_) _ u (List.mem_range.mpr hu) ?_ ?_
  · cases ev : at_ d v with
    | none => rw [ev] at hv; cases hv
    | some x =>
      rw [ev] at hv
      have hx : x < c' := of_decide_eq_true hv
      exact decide_eq_true (show x < c by omega)
  · rw [e]
    exact decide_eq_false (Nat.lt_irrefl _)
  · rw [e]
    exact decide_eq_true h
/-- the test of the walk: act k may be done and is on a cheapest way -/
def on (t : Task) (d : Array (Option Nat)) (s k : Nat) : Bool := t.can s k && ((at_ d ((t.act k).then_ s)).map fun c => (t.act k).cost + c) == at_ d s
theorem on_iff {t : Task} {d : Array (Option Nat)} {s k c : Nat} (e : at_ d s = some c) : on t d s k = true ↔ t.can s k = true ∧ ∃ c', at_ d ((t.act k).then_ s) = some c' ∧ c = (t.act k).cost + c' := by
  unfold on
  rw [Bool.and_eq_true, e, beq_iff_eq, Option.map_eq_some_iff]
  constructor
  · rintro ⟨h, c', h1, h2⟩
    exact ⟨h, c', h1, h2.symm⟩
  · rintro ⟨h, c', h1, h2⟩
    exact ⟨h, c', h1, h2.symm⟩
theorem best_first {t : Task} (g : Good t) {d : Array (Option Nat)} (D : Dist t d) : ∀ (m s c : Nat), s < 2 ^ t.facts → at_ d s = some c → cnt t d c ≤ m → First t s (t.best d m s) ∧ t.price (t.best d m s) = c
  | m, s, c, hs, e, hm => by
    have cheap : ∀ l', t.plan s l' = true → c ≤ t.price l' := fun l' h => by
      obtain ⟨c2, h1, h2⟩ := D.whole s l' hs h
      rw [e] at h1
      cases h1
      exact h2
    have cost1 : ∀ k, t.can s k = true → 1 ≤ (t.act k).cost := fun k h => (g _ (act_mem (can_iff.mp h).1)).2
    by_cases dn : t.done s = true
    · have c0 : c = 0 := by
        have := cheap [] dn
        rw [price_nil] at this
        omega
      have eb : t.best d m s = [] := by
        cases m with
        | zero => rfl
        | succ m => exact if_pos dn
      rw [eb]
      refine ⟨⟨dn, fun l' _ => Nat.zero_le _, fun l' hp hq => ?_⟩, c0.symm⟩
      cases l' with
      | nil => exact .inl rfl
      | cons k r =>
        have h1 := cost1 k (plan_cons_iff.mp hp).1
        rw [price_cons, price_nil] at hq
        omega
    · obtain ⟨l0, hp0, hl0⟩ := D.sound s c hs e
      -- some act is on a cheapest way
      have ex : ∀ l, t.plan s l = true → t.price l = c → ∃ k r, l = k :: r ∧ on t d s k = true ∧ t.plan ((t.act k).then_ s) r = true ∧ k < t.acts.length := fun l hp hl => by
        cases l with
        | nil => exact absurd hp dn
        | cons k r =>
          obtain ⟨hc, hp2⟩ := plan_cons_iff.mp hp
          have hu := then_lt hs (g _ (act_mem (can_iff.mp hc).1)).1
          obtain ⟨c1, h1, h2⟩ := D.whole _ r hu hp2
          obtain ⟨l1, h3, h4⟩ := D.sound _ c1 hu h1
          have h5 := cheap (k :: l1) (plan_cons_iff.mpr ⟨hc, h3⟩)
          rw [price_cons] at h5 hl
          exact ⟨k, r, rfl, (on_iff e).mpr ⟨hc, c1, h1, by omega⟩, hp2, (can_iff.mp hc).1⟩
      obtain ⟨k0, r0, _, on0, _, k0l⟩ := ex l0 hp0 hl0
      cases m with
      | zero =>
        obtain ⟨hc, c', h1, h2⟩ := (on_iff e).mp on0
        have hu := then_lt hs (g _ (act_mem (can_iff.mp hc).1)).1
        have h3 := cnt_lt (t := t) hu h1 (c := c) (by have := cost1 k0 hc; omega)
        omega
      | succ m =>
        cases ef : (List.range t.acts.length).find? (on t d s) with
        | none =>
          have h1 := List.find?_eq_none.mp ef k0 (List.mem_range.mpr k0l)
          exact absurd on0 h1
        | some k =>
          have eb : t.best d (m + 1) s = k :: t.best d m ((t.act k).then_ s) := by
            show (if t.done s = true then [] else match (List.range t.acts.length).find? (on t d s) with
              | some k => k :: t.best d m ((t.act k).then_ s)
              | none => []) = _
            rw [if_neg dn, ef]
          have onk := List.find?_some ef
          obtain ⟨hc, c', h1, h2⟩ := (on_iff e).mp onk
          have hu := then_lt hs (g _ (act_mem (can_iff.mp hc).1)).1
          have h3 := cnt_lt (t := t) hu h1 (c := c) (by have := cost1 k hc; omega)
          obtain ⟨F, hpr⟩ := best_first g D m _ c' hu h1 (by omega)
          rw [eb]
          have hprice : t.price (k :: t.best d m ((t.act k).then_ s)) = c := by rw [price_cons, hpr]; omega
          refine ⟨⟨plan_cons_iff.mpr ⟨hc, F.plan⟩, fun l' hl' => by rw [hprice]; exact cheap l' hl', fun l' hp hq => ?_⟩, hprice⟩
          rw [hprice] at hq
          obtain ⟨k', r', el, on', hp', k'l⟩ := ex l' hp hq
          subst el
          -- no act below k is on a cheapest way
          have hge : k ≤ k' := by
            have h4 := List.find?_range_eq_some.mp ef
            rcases Nat.lt_or_ge k' k with h5 | h5
            · have h6 := h4.2.2 k' h5
              rw [on'] at h6
              cases h6
            · exact h5
          rcases Nat.lt_or_ge k k' with h5 | h5
          · exact .inr (.lt h5)
          · have ek : k' = k := by omega
            subst ek
            rw [price_cons] at hq
            rcases F.first r' hp' (by omega) with h6 | h6
            · exact .inl (by rw [h6])
            · exact .inr (.eq h6)
/-- **what the specification's plan is** -/
theorem first_none {t : Task} (g : Good t) {s : Nat} (hs : s < 2 ^ t.facts) : t.first s = none ↔ ∀ l, t.plan s l = false := by
  rw [← (costs_dist g).none_iff hs]
  show (match at_ t.costs s with | none => none | some _ => some (t.best t.costs (2 ^ t.facts) s)) = none ↔ _
  cases e : at_ t.costs s with
  | none => exact Iff.intro (fun _ => rfl) (fun _ => rfl)
  | some c => exact Iff.intro (fun h => nomatch h) (fun h => nomatch h)
theorem first_some {t : Task} (g : Good t) {s : Nat} (hs : s < 2 ^ t.facts) {l : List Nat} : t.first s = some l ↔ First t s l := by
  have key : ∀ l, t.first s = some l → First t s l := fun l h => by
    have h' : (match at_ t.costs s with | none => none | some _ => some (t.best t.costs (2 ^ t.facts) s)) = some l := h
    cases e : at_ t.costs s with
    | none => rw [e] at h'; cases h'
    | some c =>
      rw [e] at h'
      have e2 : t.best t.costs (2 ^ t.facts) s = l := Option.some.inj h'
      rw [← e2]
      exact (best_first g (costs_dist g) _ s c hs e (cnt_le t _ c)).1
  constructor
  · exact key l
  · intro F
    cases e : t.first s with
    | none =>
      have h := (first_none g hs).mp e l
      rw [F.plan] at h
      cases h
    | some l' => rw [(key l' e).unique F]
end KP
/-! Sets of facts, all rows of things: the program's way of making them and the specification's. -/
namespace KP
open Pn16

/-! ### a set of facts: bits put in one by one -/
def pows (p : Nat → Bool) (n : Nat) : Nat := ((List.range n).filter p).foldl (fun n i => n + 2 ^ i) 0
theorem pows_succ (p : Nat → Bool) (n : Nat) : pows p (n + 1) = pows p n + (if p n = true then 2 ^ n else 0) := by
  unfold pows
  rw [List.range_succ, List.filter_append, List.foldl_append]
  by_cases h : p n = true
  · rw [if_pos h]
    simp [h]
  · rw [if_neg h]
    simp [h]
theorem pows_lt (p : Nat → Bool) : ∀ n, pows p n < 2 ^ n
  | 0 => by simp [pows]
  | n + 1 => by
    rw [pows_succ]
    have h := pows_lt p n
    have e : 2 ^ (n + 1) = 2 ^ n + 2 ^ n := by rw [Nat.pow_succ]; omega
    split <;> omega
theorem pows_bit (p : Nat → Bool) (j : Nat) : ∀ n, (pows p n).testBit j = (decide (j < n) && p j)
  | 0 => by simp [pows]
  | n + 1 => by
    rw [pows_succ]
    have ih := pows_bit p j n
    by_cases h : p n = true
    · rw [if_pos h, Nat.add_comm, show 2 ^ n + pows p n = 2 ^ n ||| pows p n from by
        have q := Nat.two_pow_add_eq_or_of_lt (pows_lt p n) 1
        rw [Nat.mul_one] at q
        exact q, Nat.testBit_or, ih, Nat.testBit_two_pow]
      by_cases e : n = j
      · subst e
        simp [h]
      · have e2 : (decide (j < n + 1)) = decide (j < n) := by
          by_cases q : j < n
          · rw [decide_eq_true q, decide_eq_true (by omega)]
          · rw [decide_eq_false q, decide_eq_false (by omega)]
        rw [e2, decide_eq_false e, Bool.false_or]
    · rw [if_neg h, Nat.add_zero, ih]
      have hf : p n = false := by simpa using h
      by_cases e : j = n
      · subst e
        rw [hf]
        simp
      · have e2 : (decide (j < n + 1)) = decide (j < n) := by
          by_cases q : j < n
          · rw [decide_eq_true q, decide_eq_true (by omega)]
          · rw [decide_eq_false q, decide_eq_false (by omega)]
        rw [e2]

def bitsOf {α : Type} [BEq α] (fs : List α) (cs : List α) : Nat := cs.foldl (fun b c => b ||| 2 ^ fs.idxOf c) 0
theorem fold_bits {α : Type} [BEq α] (fs : List α) (j : Nat) : ∀ (cs : List α) (b : Nat), (cs.foldl (fun b c => b ||| 2 ^ fs.idxOf c) b).testBit j = (b.testBit j || cs.any fun c => decide (fs.idxOf c = j))
  | [], b => by simp
  | c :: cs, b => by
    show (cs.foldl (fun b c => b ||| 2 ^ fs.idxOf c) (b ||| 2 ^ fs.idxOf c)).testBit j = _
    rw [fold_bits fs j cs, Nat.testBit_or, Nat.testBit_two_pow, List.any_cons, Bool.or_assoc]
theorem idxOf_getElem {α : Type} [BEq α] [LawfulBEq α] {fs : List α} (nd : fs.Nodup) {j : Nat} (h : j < fs.length) : fs.idxOf fs[j] = j := by
  have h1 : fs.idxOf fs[j] < fs.length := List.idxOf_lt_length_of_mem (List.getElem_mem h)
  have h2 : fs[fs.idxOf fs[j]] = fs[j] := List.getElem_idxOf h1
  have h3 := List.pairwise_iff_getElem.mp nd
  rcases Nat.lt_trichotomy (fs.idxOf fs[j]) j with h4 | h4 | h4
  · exact absurd h2 (h3 _ _ h1 h h4)
  · exact h4
  · exact absurd h2.symm (h3 _ _ h h1 h4)
/-- bits of claims, each of which is one of the facts -/
theorem bits_pows {α : Type} [BEq α] [LawfulBEq α] {fs : List α} (nd : fs.Nodup) {cs : List α} (hc : ∀ c ∈ cs, c ∈ fs) :
    bitsOf fs cs = pows (fun i => match fs[i]? with | some f => cs.contains f | none => false) fs.length := by
  refine Nat.eq_of_testBit_eq fun j => ?_
  rw [pows_bit]
  unfold bitsOf
  rw [fold_bits, Nat.zero_testBit, Bool.false_or]
  by_cases h : j < fs.length
  · rw [decide_eq_true h, Bool.true_and, List.getElem?_eq_getElem h]
    show _ = cs.contains fs[j]
    rw [Bool.eq_iff_iff, List.any_eq_true, List.contains_iff_mem]
    constructor
    · rintro ⟨c, m, e⟩
      have e2 : fs.idxOf c = j := of_decide_eq_true e
      have h1 : fs.idxOf c < fs.length := by omega
      have h2 : fs[fs.idxOf c] = c := List.getElem_idxOf h1
      have h3 : fs[j] = c := by
        rw [← h2]
        congr 1
        exact e2.symm
      rw [h3]
      exact m
    · intro m
      exact ⟨fs[j], m, decide_eq_true (idxOf_getElem nd h)⟩
  · rw [decide_eq_false h, Bool.false_and, List.any_eq_false]
    intro c m e
    have e2 : fs.idxOf c = j := of_decide_eq_true e
    have := List.idxOf_lt_length_of_mem (hc c m)
    omega
theorem setOf_bits {x : Text} (nd : (facts x).Nodup) {l : List (Nat × List Nat)} (hl : ∀ c ∈ l, c ∈ facts x) : setOf x l = bitsOf (facts x) l := by
  rw [bits_pows nd hl]
  unfold setOf pows
  congr 2
  funext i
  cases (facts x)[i]? <;> rfl
theorem setOf_lt (x : Text) (l : List (Nat × List Nat)) : setOf x l < 2 ^ (facts x).length := pows_lt _ _

/-! ### all rows of things -/
/-- the things of a kind -/
def ofKind (x : Text) (k : Nat) : List Nat := (List.range x.things.length).filter fun i => ((x.things[i]?).map fun t => t.2) == some k
def longer (R : List (List Nat)) (T : List Nat) : List (List Nat) := R.flatMap fun row => T.map fun i => row ++ [i]
theorem rows_cons (x : Text) (k : Nat) (r : List Nat) : rows x (k :: r) = (ofKind x k).flatMap fun i => (rows x r).map fun l => i :: l := rfl
theorem rows_fold (x : Text) : ∀ (ks : List Nat) (R : List (List Nat)), ks.foldl (fun R k => longer R (ofKind x k)) R = R.flatMap fun row => (rows x ks).map fun l => row ++ l
  | [], R => by
    show R = R.flatMap fun row => [row ++ []]
    simp
  | k :: ks, R => by
    show ks.foldl (fun R k => longer R (ofKind x k)) (longer R (ofKind x k)) = _
    rw [rows_fold x ks]
    unfold longer
    rw [List.flatMap_assoc]
    congr 1
    funext row
    rw [rows_cons, List.flatMap_map, List.map_flatMap]
    congr 1
    funext i
    rw [List.map_map]
    congr 1
    funext l
    simp
theorem rows_is (x : Text) (ks : List Nat) : ks.foldl (fun R k => longer R (ofKind x k)) [[]] = rows x ks := by
  rw [rows_fold]
  simp
theorem ofKind_nodup (x : Text) (k : Nat) : (ofKind x k).Nodup := List.nodup_range.filter _
theorem mem_ofKind {x : Text} {k i : Nat} : i ∈ ofKind x k ↔ i < x.things.length ∧ (x.things[i]?).map (fun t => t.2) = some k := by
  unfold ofKind
  rw [List.mem_filter, List.mem_range, beq_iff_eq]
theorem nodup_flatMap {α β : Type} {f : α → List β} : ∀ {l : List α}, l.Nodup → (∀ a ∈ l, (f a).Nodup) → (∀ a ∈ l, ∀ b ∈ l, ∀ z, z ∈ f a → z ∈ f b → a = b) → (l.flatMap f).Nodup
  | [], _, _, _ => by simp
  | a :: l, nd, h1, h2 => by
    have nd' := List.nodup_cons.mp nd
    rw [List.flatMap_cons, List.nodup_append]
    refine ⟨h1 a (List.mem_cons_self ..), nodup_flatMap nd'.2 (fun b hb => h1 b (List.mem_cons_of_mem _ hb)) (fun b hb c hc => h2 b (List.mem_cons_of_mem _ hb) c (List.mem_cons_of_mem _ hc)), ?_⟩
    intro z hz z' hz' e
    subst e
    obtain ⟨b, hb, hzb⟩ := List.mem_flatMap.mp hz'
    have := h2 a (List.mem_cons_self ..) b (List.mem_cons_of_mem _ hb) z hz hzb
    subst this
    exact nd'.1 hb
theorem nodup_map {α β : Type} {f : α → β} (inj : ∀ a b, f a = f b → a = b) : ∀ {l : List α}, l.Nodup → (l.map f).Nodup
  | [], _ => by simp
  | a :: l, nd => by
    have nd' := List.nodup_cons.mp nd
    rw [List.map_cons, List.nodup_cons]
    refine ⟨fun h => ?_, nodup_map inj nd'.2⟩
    obtain ⟨b, hb, e⟩ := List.mem_map.mp h
    have := inj _ _ e
    subst this
    exact nd'.1 hb
theorem rows_nodup (x : Text) : ∀ ks, (rows x ks).Nodup
  | [] => by simp [rows]
  | k :: r => by
    rw [rows_cons]
    refine nodup_flatMap (ofKind_nodup x k) (fun i _ => nodup_map (fun a b e => (List.cons.inj e).2) (rows_nodup x r)) ?_
    intro a _ b _ z hz hz'
    obtain ⟨u, _, e1⟩ := List.mem_map.mp hz
    obtain ⟨v, _, e2⟩ := List.mem_map.mp hz'
    rw [← e2] at e1
    exact (List.cons.inj e1).1
theorem facts_nodup (x : Text) : (facts x).Nodup := by
  unfold facts
  refine nodup_flatMap List.nodup_range (fun p _ => nodup_map (fun a b e => (Prod.mk.inj e).2) (rows_nodup x _)) ?_
  intro a _ b _ z hz hz'
  obtain ⟨u, _, e1⟩ := List.mem_map.mp hz
  obtain ⟨v, _, e2⟩ := List.mem_map.mp hz'
  rw [← e2] at e1
  exact (Prod.mk.inj e1).1
/-- a row is one of the rows of the kinds of its things -/
theorem mem_rows {x : Text} : ∀ {ks l : List Nat}, l ∈ rows x ks ↔ l.length = ks.length ∧ (∀ i ∈ l, i < x.things.length) ∧ l.map (fun i => ((x.things[i]?).map fun t => t.2).getD 0) = ks
  | [], l => by
    show l ∈ [[]] ↔ _
    rw [List.mem_singleton]
    constructor
    · rintro rfl
      simp
    · rintro ⟨h, _⟩
      exact List.length_eq_zero_iff.mp h
  | k :: r, l => by
    rw [rows_cons, List.mem_flatMap]
    constructor
    · rintro ⟨i, hi, hl⟩
      obtain ⟨l', hl', rfl⟩ := List.mem_map.mp hl
      obtain ⟨h1, h2, h3⟩ := mem_rows.mp hl'
      obtain ⟨h4, h5⟩ := mem_ofKind.mp hi
      refine ⟨by simp [h1], ?_, ?_⟩
      · intro j hj
        rcases List.mem_cons.mp hj with e | hj
        · omega
        · exact h2 j hj
      · rw [List.map_cons, h3, h5]
        rfl
    · rintro ⟨h1, h2, h3⟩
      cases l with
      | nil => simp at h1
      | cons i l' =>
        rw [List.map_cons] at h3
        obtain ⟨h4, h5⟩ := List.cons.inj h3
        have hi := h2 i (List.mem_cons_self ..)
        refine ⟨i, mem_ofKind.mpr ⟨hi, ?_⟩, List.mem_map.mpr ⟨l', mem_rows.mpr ⟨by simpa using h1, fun j hj => h2 j (List.mem_cons_of_mem _ hj), h5⟩, rfl⟩⟩
        rw [List.getElem?_eq_getElem hi] at h4 ⊢
        rw [← h4]
        rfl
theorem mem_facts {x : Text} {p : Nat} {l : List Nat} : (p, l) ∈ facts x ↔ p < x.facts.length ∧ l ∈ rows x (kindsOf x p) := by
  unfold facts
  rw [List.mem_flatMap]
  constructor
  · rintro ⟨q, hq, h⟩
    obtain ⟨u, hu, e⟩ := List.mem_map.mp h
    obtain ⟨e1, e2⟩ := Prod.mk.inj e
    subst e1 e2
    exact ⟨List.mem_range.mp hq, hu⟩
  · rintro ⟨h1, h2⟩
    exact ⟨p, List.mem_range.mpr h1, List.mem_map.mpr ⟨l, h2, rfl⟩⟩
end KP
/-! A text as it may be: what a line read keeps. -/
namespace KP
open Pn16

def kindName (x : Text) (k : Nat) : Bytes := x.kinds.getD k []
def litWords (x : Text) (s : Schema) (l : Lit) : List Bytes := factName x l.1 :: l.2.map (argName x s)
def saidWords (x : Text) (f : Nat × List Nat) : List Bytes := factName x f.1 :: f.2.map (thingName x)
def thingKind (x : Text) (i : Nat) : Nat := ((x.things[i]?).map fun t => t.2).getD 0
/-- an argument that is there -/
def argOk (x : Text) (s : Schema) : Arg → Prop
  | .place i => i < s.places.length
  | .thing k => k < x.things.length
structure LitOk (x : Text) (s : Schema) (l : Lit) : Prop where
  fact : l.1 < x.facts.length
  args : ∀ a ∈ l.2, argOk x s a
  kinds : l.2.map (kindOf x s) = kindsOf x l.1
structure SaidOk (x : Text) (f : Nat × List Nat) : Prop where
  fact : f.1 < x.facts.length
  args : ∀ i ∈ f.2, i < x.things.length
  kinds : f.2.map (thingKind x) = kindsOf x f.1
structure ActOk (x : Text) (s : Schema) : Prop where
  name : isName s.name = true
  cost : 1 ≤ s.cost ∧ s.cost ≤ 999
  few : s.places.length ≤ 2
  places : ∀ p ∈ s.places, isName p.1 = true ∧ p.2 < x.kinds.length
  apart : (names s.places).Nodup
  things : ∀ p ∈ names s.places, p ∉ names x.things
  needs : s.needs.length ≤ 6 ∧ ∀ l ∈ s.needs, LitOk x s l
  bars : s.bars.length ≤ 6 ∧ ∀ l ∈ s.bars, LitOk x s l
  brings : s.brings.length ≤ 6 ∧ ∀ l ∈ s.brings, LitOk x s l
  takes : s.takes.length ≤ 6 ∧ ∀ l ∈ s.takes, LitOk x s l
structure TextOk (x : Text) : Prop where
  kinds : x.kinds.length ≤ 3 ∧ x.kinds.Nodup ∧ ∀ k ∈ x.kinds, isName k = true
  things : x.things.length ≤ 6 ∧ (names x.things).Nodup ∧ ∀ t ∈ x.things, isName t.1 = true ∧ t.2 < x.kinds.length
  facts : x.facts.length ≤ 4 ∧ (names x.facts).Nodup ∧ ∀ f ∈ x.facts, isName f.1 = true ∧ f.2.length ≤ 2 ∧ ∀ k ∈ f.2, k < x.kinds.length
  acts : x.acts.length ≤ 4 ∧ (x.acts.map fun s => s.name).Nodup ∧ ∀ s ∈ x.acts, ActOk x s
  now : x.now.length ≤ 12 ∧ ∀ f ∈ x.now, SaidOk x f
  want : x.want.length ≤ 12 ∧ ∀ f ∈ x.want, SaidOk x f
theorem ok_blank : TextOk blank := by
  refine ⟨⟨by decide, by decide, ?_⟩, ⟨by decide, by decide, ?_⟩, ⟨by decide, by decide, ?_⟩, ⟨by decide, by decide, ?_⟩, ⟨by decide, ?_⟩, ⟨by decide, ?_⟩⟩ <;> (intro a h; exact nomatch h)
/-! ### indexes -/
theorem index_some {l : List Bytes} {w : Bytes} {i : Nat} (h : indexOf l w = some i) : i < l.length ∧ l.getD i [] = w ∧ w ∈ l ∧ l[i]? = some w := by
  unfold indexOf at h
  have h1 := List.idxOf?_eq_some_iff.mp h
  obtain ⟨hi, e, _⟩ := h1
  have e' : l[i] = w := by simpa using e
  refine ⟨hi, ?_, ?_, ?_⟩
  · rw [List.getD_eq_getElem?_getD, List.getElem?_eq_getElem hi, e']
    rfl
  · rw [← e']
    exact List.getElem_mem hi
  · rw [List.getElem?_eq_getElem hi, e']
theorem index_none {l : List Bytes} {w : Bytes} (h : indexOf l w = none) : w ∉ l := by
  unfold indexOf at h
  exact List.idxOf?_eq_none_iff.mp h
theorem all_some {α : Type} {f : Bytes → Option α} : ∀ {ws : List Bytes} {l : List α}, all? f ws = some l → l.length = ws.length ∧ ∀ (i : Nat) (w : Bytes), ws[i]? = some w → ∃ a, l[i]? = some a ∧ f w = some a
  | [], l, h => by
    have e : [] = l := Option.some.inj h
    subst e
    exact ⟨rfl, fun i w h => by simp at h⟩
  | v :: ws, l, h => by
    unfold all? at h
    cases h1 : f v with
    | none =>
      rw [h1] at h
      cases h
    | some a =>
      cases h2 : all? f ws with
      | none =>
        rw [h1, h2] at h
        cases h
      | some r =>
        rw [h1, h2] at h
        have e : a :: r = l := Option.some.inj h
        subst e
        obtain ⟨i1, i2⟩ := all_some h2
        refine ⟨by simp [i1], fun i w hw => ?_⟩
        cases i with
        | zero =>
          have e : v = w := by simpa using hw
          subst e
          exact ⟨a, rfl, h1⟩
        | succ i =>
          obtain ⟨a', h3, h4⟩ := i2 i w (by simpa using hw)
          exact ⟨a', by simpa using h3, h4⟩
theorem all_mem {α : Type} {f : Bytes → Option α} {ws : List Bytes} {l : List α} (h : all? f ws = some l) {a : α} (ha : a ∈ l) : ∃ w ∈ ws, f w = some a := by
  obtain ⟨h1, h2⟩ := all_some h
  obtain ⟨i, hi⟩ := List.mem_iff_getElem?.mp ha
  have hl : i < ws.length := by
    rw [← h1]
    exact (List.getElem?_eq_some_iff.mp hi).1
  obtain ⟨a', h3, h4⟩ := h2 i _ (List.getElem?_eq_getElem hl)
  rw [hi] at h3
  cases h3
  exact ⟨_, List.getElem_mem hl, h4⟩
/-! ### more of a list -/
theorem getD_more {α : Type} {l : List α} {i : Nat} {d : α} {m : List α} (h : i < l.length) : (l ++ m).getD i d = l.getD i d := by
  rw [List.getD_eq_getElem?_getD, List.getD_eq_getElem?_getD, List.getElem?_append_left h]
theorem get?_more {α : Type} {l m : List α} {i : Nat} (h : i < l.length) : (l ++ m)[i]? = l[i]? := List.getElem?_append_left h
/-- x with more kinds, things, facts -/
structure More (x y : Text) : Prop where
  kinds : ∃ m, y.kinds = x.kinds ++ m
  things : ∃ m, y.things = x.things ++ m
  facts : ∃ m, y.facts = x.facts ++ m
section
variable {x y : Text} (M : More x y)
include M
theorem More.kindsLe : x.kinds.length ≤ y.kinds.length := by
  obtain ⟨m, e⟩ := M.kinds
  rw [e, List.length_append]
  omega
theorem More.thingsLe : x.things.length ≤ y.things.length := by
  obtain ⟨m, e⟩ := M.things
  rw [e, List.length_append]
  omega
theorem More.factsLe : x.facts.length ≤ y.facts.length := by
  obtain ⟨m, e⟩ := M.facts
  rw [e, List.length_append]
  omega
theorem More.kindName {k : Nat} (h : k < x.kinds.length) : KP.kindName y k = KP.kindName x k := by
  obtain ⟨m, e⟩ := M.kinds
  unfold KP.kindName
  rw [e, getD_more h]
theorem More.thing {i : Nat} (h : i < x.things.length) : y.things[i]? = x.things[i]? := by
  obtain ⟨m, e⟩ := M.things
  rw [e, get?_more h]
theorem More.fact {i : Nat} (h : i < x.facts.length) : y.facts[i]? = x.facts[i]? := by
  obtain ⟨m, e⟩ := M.facts
  rw [e, get?_more h]
theorem More.thingKind {i : Nat} (h : i < x.things.length) : KP.thingKind y i = KP.thingKind x i := by
  unfold KP.thingKind
  rw [M.thing h]
theorem More.kindsOf {p : Nat} (h : p < x.facts.length) : Pn16.kindsOf y p = Pn16.kindsOf x p := by
  unfold Pn16.kindsOf
  rw [M.fact h]
theorem More.thingName {i : Nat} (h : i < x.things.length) : Pn16.thingName y i = Pn16.thingName x i := by
  unfold Pn16.thingName names
  rw [List.getD_eq_getElem?_getD, List.getD_eq_getElem?_getD, List.getElem?_map, List.getElem?_map, M.thing h]
theorem More.factName {i : Nat} (h : i < x.facts.length) : Pn16.factName y i = Pn16.factName x i := by
  unfold Pn16.factName names
  rw [List.getD_eq_getElem?_getD, List.getD_eq_getElem?_getD, List.getElem?_map, List.getElem?_map, M.fact h]
theorem More.lit {s : Schema} {l : Lit} (h : LitOk x s l) : LitOk y s l := by
  refine ⟨Nat.lt_of_lt_of_le h.fact M.factsLe, fun a ha => ?_, ?_⟩
  · have := h.args a ha
    cases a with
    | place i => exact this
    | thing k => exact Nat.lt_of_lt_of_le this M.thingsLe
  · rw [M.kindsOf h.fact, ← h.kinds]
    refine List.map_congr_left fun a ha => ?_
    have := h.args a ha
    cases a with
    | place i => rfl
    | thing k => exact M.thingKind this
theorem More.litWords {s : Schema} {l : Lit} (h : LitOk x s l) : KP.litWords y s l = KP.litWords x s l := by
  unfold KP.litWords
  rw [M.factName h.fact]
  congr 1
  refine List.map_congr_left fun a ha => ?_
  have := h.args a ha
  cases a with
  | place i => rfl
  | thing k => exact M.thingName this
theorem More.said {f : Nat × List Nat} (h : SaidOk x f) : SaidOk y f := by
  refine ⟨Nat.lt_of_lt_of_le h.fact M.factsLe, fun a ha => Nat.lt_of_lt_of_le (h.args a ha) M.thingsLe, ?_⟩
  rw [M.kindsOf h.fact, ← h.kinds]
  exact List.map_congr_left fun a ha => M.thingKind (h.args a ha)
theorem More.saidWords {f : Nat × List Nat} (h : SaidOk x f) : KP.saidWords y f = KP.saidWords x f := by
  unfold KP.saidWords
  rw [M.factName h.fact]
  congr 1
  exact List.map_congr_left fun a ha => M.thingName (h.args a ha)
/-- an act stays as it may be, if no thing is called like one of its places -/
theorem More.act {s : Schema} (h : ActOk x s) (ht : ∀ p ∈ names s.places, p ∉ names y.things) : ActOk y s :=
  ⟨h.name, h.cost, h.few, fun p hp => ⟨(h.places p hp).1, Nat.lt_of_lt_of_le (h.places p hp).2 M.kindsLe⟩, h.apart, ht, ⟨h.needs.1, fun l hl => M.lit (h.needs.2 l hl)⟩, ⟨h.bars.1, fun l hl => M.lit (h.bars.2 l hl)⟩, ⟨h.brings.1, fun l hl => M.lit (h.brings.2 l hl)⟩, ⟨h.takes.1, fun l hl => M.lit (h.takes.2 l hl)⟩⟩
end
theorem More.refl (x : Text) : More x x := ⟨⟨[], by simp⟩, ⟨[], by simp⟩, ⟨[], by simp⟩⟩
/-! ### lists that grow by one -/
theorem nodup_snoc {α : Type} {l : List α} {a : α} (h : l.Nodup) (n : a ∉ l) : (l ++ [a]).Nodup := by
  rw [List.nodup_append]
  refine ⟨h, by simp, fun z hz z' hz' e => ?_⟩
  have e2 : z' = a := by simpa using hz'
  subst e2
  subst e
  exact n hz
theorem mem_snoc {α : Type} {l : List α} {a b : α} (h : b ∈ l ++ [a]) : b ∈ l ∨ b = a := by
  rcases List.mem_append.mp h with h | h
  · exact .inl h
  · exact .inr (by simpa using h)
theorem names_snoc {α : Type} (l : List (Bytes × α)) (n : Bytes) (k : α) : names (l ++ [(n, k)]) = names l ++ [n] := by
  unfold names
  rw [List.map_append]
  rfl
/-- a line that adds a kind -/
theorem ok_kind {x : Text} {n : Bytes} (h : TextOk x) (hn : isName n = true) (hc : n ∉ x.kinds) (hl : x.kinds.length ≠ 3) : TextOk { x with kinds := x.kinds ++ [n] } := by
  have M : More x { x with kinds := x.kinds ++ [n] } := ⟨⟨[n], rfl⟩, ⟨[], by simp⟩, ⟨[], by simp⟩⟩
  refine ⟨⟨?_, nodup_snoc h.kinds.2.1 hc, fun k hk => ?_⟩, ⟨h.things.1, h.things.2.1, fun t ht => ⟨(h.things.2.2 t ht).1, Nat.lt_of_lt_of_le (h.things.2.2 t ht).2 M.kindsLe⟩⟩, ⟨h.facts.1, h.facts.2.1, fun f hf => ⟨(h.facts.2.2 f hf).1, (h.facts.2.2 f hf).2.1, fun k hk => Nat.lt_of_lt_of_le ((h.facts.2.2 f hf).2.2 k hk) M.kindsLe⟩⟩,
    ⟨h.acts.1, h.acts.2.1, fun s hs => M.act (h.acts.2.2 s hs) (h.acts.2.2 s hs).things⟩, ⟨h.now.1, fun f hf => M.said (h.now.2 f hf)⟩, ⟨h.want.1, fun f hf => M.said (h.want.2 f hf)⟩⟩
  · show (x.kinds ++ [n]).length ≤ 3
    rw [List.length_append]
    have := h.kinds.1
    simp
    omega
  · rcases mem_snoc hk with hk | hk
    · exact h.kinds.2.2 k hk
    · rw [hk]
      exact hn
theorem ok_thing {x : Text} {n : Bytes} {i : Nat} (h : TextOk x) (hn : isName n = true) (hc : n ∉ names x.things) (hp : ∀ s ∈ x.acts, n ∉ names s.places) (hi : i < x.kinds.length) (hl : x.things.length ≠ 6) : TextOk { x with things := x.things ++ [(n, i)] } := by
  have M : More x { x with things := x.things ++ [(n, i)] } := ⟨⟨[], by simp⟩, ⟨[(n, i)], rfl⟩, ⟨[], by simp⟩⟩
  refine ⟨h.kinds, ⟨?_, ?_, fun t ht => ?_⟩, h.facts, ⟨h.acts.1, h.acts.2.1, fun s hs => M.act (h.acts.2.2 s hs) fun p hp' hm => ?_⟩, ⟨h.now.1, fun f hf => M.said (h.now.2 f hf)⟩, ⟨h.want.1, fun f hf => M.said (h.want.2 f hf)⟩⟩
  · show (x.things ++ [(n, i)]).length ≤ 6
    rw [List.length_append]
    have := h.things.1
    simp
    omega
  · show (names (x.things ++ [(n, i)])).Nodup
    rw [names_snoc]
    exact nodup_snoc h.things.2.1 hc
  · rcases mem_snoc ht with ht | ht
    · exact h.things.2.2 t ht
    · rw [ht]
      exact ⟨hn, hi⟩
  · have hm' : p ∈ names x.things ++ [n] := by
      have e := names_snoc x.things n i
      rw [← e]
      exact hm
    rcases mem_snoc hm' with q | q
    · exact (h.acts.2.2 s hs).things p hp' q
    · rw [q] at hp'
      exact hp s hs hp'
theorem ok_fact {x : Text} {n : Bytes} {ks : List Nat} (h : TextOk x) (hn : isName n = true) (hc : n ∉ names x.facts) (hk : ks.length ≤ 2) (hi : ∀ k ∈ ks, k < x.kinds.length) (hl : x.facts.length ≠ 4) : TextOk { x with facts := x.facts ++ [(n, ks)] } := by
  have M : More x { x with facts := x.facts ++ [(n, ks)] } := ⟨⟨[], by simp⟩, ⟨[], by simp⟩, ⟨[(n, ks)], rfl⟩⟩
  refine ⟨h.kinds, h.things, ⟨?_, ?_, fun t ht => ?_⟩, ⟨h.acts.1, h.acts.2.1, fun s hs => M.act (h.acts.2.2 s hs) (h.acts.2.2 s hs).things⟩, ⟨h.now.1, fun f hf => M.said (h.now.2 f hf)⟩, ⟨h.want.1, fun f hf => M.said (h.want.2 f hf)⟩⟩
  · show (x.facts ++ [(n, ks)]).length ≤ 4
    rw [List.length_append]
    have := h.facts.1
    simp
    omega
  · show (names (x.facts ++ [(n, ks)])).Nodup
    rw [names_snoc]
    exact nodup_snoc h.facts.2.1 hc
  · rcases mem_snoc ht with ht | ht
    · exact h.facts.2.2 t ht
    · rw [ht]
      exact ⟨hn, hk, hi⟩
/-- only acts (or what's said) are other -/
theorem ok_acts {x : Text} {as : List Schema} (h : TextOk x) (h1 : as.length ≤ 4) (h2 : (as.map fun s => s.name).Nodup) (h3 : ∀ s ∈ as, ActOk x s) : TextOk { x with acts := as } := by
  have M : More x { x with acts := as } := ⟨⟨[], by simp⟩, ⟨[], by simp⟩, ⟨[], by simp⟩⟩
  exact ⟨h.kinds, h.things, h.facts, ⟨h1, h2, fun s hs => M.act (h3 s hs) (h3 s hs).things⟩, ⟨h.now.1, fun f hf => M.said (h.now.2 f hf)⟩, ⟨h.want.1, fun f hf => M.said (h.want.2 f hf)⟩⟩
theorem ok_now {x : Text} {l : List (Nat × List Nat)} (h : TextOk x) (h1 : l.length ≤ 12) (h2 : ∀ f ∈ l, SaidOk x f) : TextOk { x with now := l } := by
  have M : More x { x with now := l } := ⟨⟨[], by simp⟩, ⟨[], by simp⟩, ⟨[], by simp⟩⟩
  exact ⟨h.kinds, h.things, h.facts, ⟨h.acts.1, h.acts.2.1, fun s hs => M.act (h.acts.2.2 s hs) (h.acts.2.2 s hs).things⟩, ⟨h1, fun f hf => M.said (h2 f hf)⟩, ⟨h.want.1, fun f hf => M.said (h.want.2 f hf)⟩⟩
theorem ok_want {x : Text} {l : List (Nat × List Nat)} (h : TextOk x) (h1 : l.length ≤ 12) (h2 : ∀ f ∈ l, SaidOk x f) : TextOk { x with want := l } := by
  have M : More x { x with want := l } := ⟨⟨[], by simp⟩, ⟨[], by simp⟩, ⟨[], by simp⟩⟩
  exact ⟨h.kinds, h.things, h.facts, ⟨h.acts.1, h.acts.2.1, fun s hs => M.act (h.acts.2.2 s hs) (h.acts.2.2 s hs).things⟩, ⟨h.now.1, fun f hf => M.said (h.now.2 f hf)⟩, ⟨h1, fun f hf => M.said (h2 f hf)⟩⟩
end KP
/-! A line's words: the program's faults, one by one, and the specification's reading. -/
namespace KP
open Pn16

def kKind : Bytes := [107, 105, 110, 100]
def kThing : Bytes := [116, 104, 105, 110, 103]
def kFact : Bytes := [102, 97, 99, 116]
def kAct : Bytes := [97, 99, 116]
def kNeeds : Bytes := [110, 101, 101, 100, 115]
def kBars : Bytes := [98, 97, 114, 115]
def kBrings : Bytes := [98, 114, 105, 110, 103, 115]
def kTakes : Bytes := [116, 97, 107, 101, 115]
def kNow : Bytes := [110, 111, 119]
def kWant : Bytes := [119, 97, 110, 116]
def rName : Bytes := [110, 97, 109, 101]
def rCost : Bytes := [99, 111, 115, 116]
def rPlace : Bytes := [112, 108, 97, 99, 101]
def rArg : Bytes := [97, 114, 103, 117, 109, 101, 110, 116]
theorem a_kind : ascii "kind" = kKind := by decide
theorem a_thing : ascii "thing" = kThing := by decide
theorem a_fact : ascii "fact" = kFact := by decide
theorem a_act : ascii "act" = kAct := by decide
theorem a_needs : ascii "needs" = kNeeds := by decide
theorem a_bars : ascii "bars" = kBars := by decide
theorem a_brings : ascii "brings" = kBrings := by decide
theorem a_takes : ascii "takes" = kTakes := by decide
theorem a_now : ascii "now" = kNow := by decide
theorem a_want : ascii "want" = kWant := by decide
/-- the tables of the program -/
def rolesOf (f : Bytes) : List Bytes :=
  if f = kKind then [rName] else if f = kThing then [rName, kKind] else if f = kFact then [rName, kKind, kKind] else if f = kAct then [rName, rCost, rPlace, kKind, rPlace, kKind]
  else if f = kNeeds ∨ f = kBars ∨ f = kBrings ∨ f = kTakes then [kFact, rArg, rArg] else if f = kNow ∨ f = kWant then [kFact, kThing, kThing] else []
def countsOf (f : Bytes) : Option (List Nat) :=
  if f = kKind then some [2] else if f = kThing then some [3] else if f = kFact then some [2, 3, 4] else if f = kAct then some [3, 5, 7]
  else if f = kNeeds ∨ f = kBars ∨ f = kBrings ∨ f = kTakes ∨ f = kNow ∨ f = kWant then some [2, 3, 4] else none
def mostOf (f : Bytes) : Nat :=
  if f = kKind then 3 else if f = kThing then 6 else if f = kFact then 4 else if f = kAct then 4 else if f = kNow ∨ f = kWant then 12 else 6
/-! ### the program's tests -/
def noLine (ws : List Bytes) : Bool := match countsOf (ws.headD []) with
  | none => true
  | some c => !c.contains ws.length
def wrongWord1 (role w : Bytes) : Bool := if role = rCost then !(cost? w).isSome else !isName w
def wrongWord (ws : List Bytes) : Bool := ((rolesOf (ws.headD [])).zip ws.tail).any fun p => wrongWord1 p.1 p.2
def isPlace (x : Text) (n : Bytes) : Bool := x.acts.any fun a => (names a.places).contains n
/-- every second one -/
def seconds : List Bytes → List Bytes
  | a :: _ :: r => a :: seconds r
  | [a] => [a]
  | [] => []
def wrongPlaces (x : Text) (ps : List Bytes) : Bool := (decide (ps.length = 2) && decide (ps[0]? = ps[1]?)) || ps.any (names x.things).contains
def nameAgain (x : Text) (ws : List Bytes) : Bool :=
  let f := ws.headD []
  let n := ws.getD 1 []
  if f = kKind then x.kinds.contains n else if f = kThing then (names x.things).contains n || isPlace x n else if f = kFact then (names x.facts).contains n
  else if f = kAct then (x.acts.map fun a => a.name).contains n || wrongPlaces x (seconds (ws.drop 3)) else false
def lastPlaces (x : Text) : List Bytes := match x.acts.getLast? with
  | none => []
  | some s => names s.places
def isThere (x : Text) (role w : Bytes) : Bool :=
  if role = kKind then x.kinds.contains w else if role = kFact then (names x.facts).contains w else if role = kThing then (names x.things).contains w
  else if role = rArg then (names x.things).contains w || (lastPlaces x).contains w else true
def notThere (x : Text) (ws : List Bytes) : Bool := ((rolesOf (ws.headD [])).zip ws.tail).any fun p => !isThere x p.1 p.2
/-- the name of an argument's kind -/
def argKind (x : Text) (w : Bytes) : Bytes := if (names x.things).contains w = true then kindName x (thingKind x ((names x.things).idxOf w)) else
  let s := x.acts.getLast?.getD none_
  kindName x (((s.places[(names s.places).idxOf w]?).map fun p => p.2).getD 0)
def factKinds (x : Text) (p : Nat) : List Bytes := (kindsOf x p).map (kindName x)
def otherKinds (x : Text) (ws : List Bytes) : Bool := if (rolesOf (ws.headD [])).headD [] = kFact then decide ((ws.drop 2).map (argKind x) ≠ factKinds x ((names x.facts).idxOf (ws.getD 1 []))) else false
def which (f : Bytes) : Nat := if f = kNeeds then 0 else if f = kBars then 1 else if f = kBrings then 2 else 3
def ofAct (f : Bytes) : Bool := decide (f = kNeeds ∨ f = kBars ∨ f = kBrings ∨ f = kTakes)
def countTold (x : Text) (f : Bytes) : Nat := if f = kKind then x.kinds.length else if f = kThing then x.things.length else if f = kFact then x.facts.length else if f = kAct then x.acts.length
  else if f = kNow then x.now.length else if f = kWant then x.want.length else (litsOf (which f) (x.acts.getLast?.getD none_)).length
def lowest (x : Text) (ws : List Bytes) : Nat := if noLine ws = true then 2 else if wrongWord ws = true then 3 else if nameAgain x ws = true then 4 else if notThere x ws = true then 5 else if otherKinds x ws = true then 6
  else if mostOf (ws.headD []) ≤ countTold x (ws.headD []) then 7 else if ofAct (ws.headD []) = true ∧ x.acts = [] then 8 else 0
/-- what a line does to a text -/
inductive Step (x : Text) : List Bytes → Text → Prop
  | kind {n : Bytes} : isName n = true → n ∉ x.kinds → x.kinds.length ≠ 3 → Step x [kKind, n] { x with kinds := x.kinds ++ [n] }
  | thing {n k : Bytes} {i : Nat} : isName n = true → n ∉ names x.things → (∀ s ∈ x.acts, n ∉ names s.places) → indexOf x.kinds k = some i → x.things.length ≠ 6 → Step x [kThing, n, k] { x with things := x.things ++ [(n, i)] }
  | fact {n : Bytes} {l : List Bytes} {ks : List Nat} : isName n = true → l.length ≤ 2 → n ∉ names x.facts → all? (indexOf x.kinds) l = some ks → x.facts.length ≠ 4 → Step x (kFact :: n :: l) { x with facts := x.facts ++ [(n, ks)] }
  | act {n c : Bytes} {l : List Bytes} {co : Nat} {ks : List Nat} : isName n = true → cost? c = some co → (l.length = 0 ∨ l.length = 2 ∨ l.length = 4) → (∀ w ∈ l, isName w = true) → n ∉ x.acts.map (fun a => a.name) → (names (pairsOf l)).Nodup → (∀ p ∈ names (pairsOf l), p ∉ names x.things) →
      all? (indexOf x.kinds) ((pairsOf l).map fun p => p.2) = some ks → x.acts.length ≠ 4 → Step x (kAct :: n :: c :: l) { x with acts := x.acts ++ [⟨n, co, (names (pairsOf l)).zip ks, [], [], [], []⟩] }
  | lit {f p : Bytes} {a : List Bytes} {s : Schema} {pre : List Schema} {n : Nat} {l : List Arg} : ofAct f = true → x.acts = pre ++ [s] → a.length ≤ 2 → indexOf (names x.facts) p = some n → all? (arg? x s) a = some l → l.map (kindOf x s) = kindsOf x n → (litsOf (which f) s).length ≠ 6 →
      Step x (f :: p :: a) { x with acts := pre ++ [addLit (which f) (n, l) s] }
  | now {p : Bytes} {a : List Bytes} {n : Nat} {k : List Nat} : a.length ≤ 2 → indexOf (names x.facts) p = some n → all? (indexOf (names x.things)) a = some k → k.map (thingKind x) = kindsOf x n → x.now.length ≠ 12 → Step x (kNow :: p :: a) { x with now := x.now ++ [(n, k)] }
  | want {p : Bytes} {a : List Bytes} {n : Nat} {k : List Nat} : a.length ≤ 2 → indexOf (names x.facts) p = some n → all? (indexOf (names x.things)) a = some k → k.map (thingKind x) = kindsOf x n → x.want.length ≠ 12 → Step x (kWant :: p :: a) { x with want := x.want ++ [(n, k)] }
/-! ### the two agree -/
theorem contains_iff {l : List Bytes} {w : Bytes} : l.contains w = true ↔ w ∈ l := List.contains_iff_mem
theorem contains_false {l : List Bytes} {w : Bytes} : l.contains w = false ↔ w ∉ l := by
  rw [← Bool.not_eq_true, contains_iff]
theorem index_isSome {l : List Bytes} {w : Bytes} (h : w ∈ l) : ∃ i, indexOf l w = some i := by
  cases e : indexOf l w with
  | none => exact absurd h (index_none e)
  | some i => exact ⟨i, rfl⟩
theorem index_eq : ∀ {l : List Bytes} {w : Bytes} {i : Nat}, indexOf l w = some i → l.idxOf w = i
  | [], w, i, h => by
    unfold indexOf at h
    simp at h
  | a :: l, w, i, h => by
    unfold indexOf at h
    rw [List.idxOf?_cons] at h
    rw [List.idxOf_cons]
    cases e : a == w with
    | true =>
      rw [e] at h
      simp at h
      rw [← h] <;> rfl
    | false =>
      rw [e] at h
      have h' : Option.map (fun x => x + 1) (l.idxOf? w) = some i := by simpa using h
      obtain ⟨j, hj, e2⟩ := Option.map_eq_some_iff.mp h'
      show l.idxOf w + 1 = i
      rw [index_eq (l := l) (w := w) (i := j) hj, e2]
/-- the reading's outcome, told by the lowest fault -/
def Agrees (x : Text) (ws : List Bytes) (r : Except Nat Text) : Prop := match r with
  | .error e => lowest x ws = e ∧ e ≠ 0
  | .ok y => lowest x ws = 0 ∧ Step x ws y

theorem low {x : Text} {ws : List Bytes} {b2 b3 b4 b5 b6 : Bool} {f : Bytes} (hf : ws.headD [] = f) (h2 : noLine ws = b2) (h3 : wrongWord ws = b3) (h4 : nameAgain x ws = b4) (h5 : notThere x ws = b5) (h6 : otherKinds x ws = b6) :
    lowest x ws = if b2 = true then 2 else if b3 = true then 3 else if b4 = true then 4 else if b5 = true then 5 else if b6 = true then 6 else if mostOf f ≤ countTold x f then 7 else if ofAct f = true ∧ x.acts = [] then 8 else 0 := by
  unfold lowest
  rw [h2, h3, h4, h5, h6, hf]
theorem low2 {x : Text} {ws : List Bytes} (h : noLine ws = true) : lowest x ws = 2 := if_pos h
theorem rl_eq (x : Text) (f : Bytes) (r : List Bytes) : readLine x (f :: r) = if f = kKind then (match r with
      | [n] => if isName n = false then .error 3 else if x.kinds.contains n = true then .error 4 else if x.kinds.length = KINDS then .error 7 else .ok { x with kinds := x.kinds ++ [n] }
      | _ => .error 2)
    else if f = kThing then (match r with
      | [n, k] => if isName n = false ∨ isName k = false then .error 3 else if (names x.things).contains n = true ∨ (x.acts.any fun a => (names a.places).contains n) = true then .error 4 else match indexOf x.kinds k with
        | none => .error 5
        | some i => if x.things.length = THINGS then .error 7 else .ok { x with things := x.things ++ [(n, i)] }
      | _ => .error 2)
    else if f = kFact then (match r with
      | n :: l => if 2 < l.length then .error 2 else if (n :: l).all isName = false then .error 3 else if (names x.facts).contains n = true then .error 4 else match all? (indexOf x.kinds) l with
        | none => .error 5
        | some k => if x.facts.length = PREDS then .error 7 else .ok { x with facts := x.facts ++ [(n, k)] }
      | [] => .error 2)
    else if f = kAct then (match r with
      | n :: c :: l => if l.length ≠ 0 ∧ l.length ≠ 2 ∧ l.length ≠ 4 then .error 2 else if (n :: l).all isName = false ∨ (cost? c).isNone = true then .error 3 else let v := pairsOf l
        if (x.acts.any fun a => a.name == n) = true ∨ distinct (names v) = false ∨ ((names v).any (names x.things).contains) = true then .error 4 else match all? (indexOf x.kinds) (v.map fun p => p.2) with
          | none => .error 5
          | some k => if x.acts.length = ACTS then .error 7 else .ok { x with acts := x.acts ++ [⟨n, (cost? c).getD 1, (names v).zip k, [], [], [], []⟩] }
      | _ => .error 2)
    else if f = kNeeds then readLit x 0 r else if f = kBars then readLit x 1 r else if f = kBrings then readLit x 2 r else if f = kTakes then readLit x 3 r
    else if f = kNow then (match readSaid x x.now r with
      | .ok l => .ok { x with now := l }
      | .error e => .error e)
    else if f = kWant then (match readSaid x x.want r with
      | .ok l => .ok { x with want := l }
      | .error e => .error e)
    else .error 2 := by
  rw [readLine.eq_def]
  simp only [a_kind, a_thing, a_fact, a_act, a_needs, a_bars, a_brings, a_takes, a_now, a_want]
  rfl
theorem ag_kind {x : Text} (hx : TextOk x) (r : List Bytes) : Agrees x (kKind :: r) (readLine x (kKind :: r)) := by
  rw [rl_eq, if_pos rfl]
  match r with
  | [] => exact ⟨low2 (by simp [noLine, countsOf]), by decide⟩
  | [n] =>
    show Agrees x [kKind, n] (if isName n = false then .error 3 else if x.kinds.contains n = true then .error 4 else if x.kinds.length = KINDS then .error 7 else .ok { x with kinds := x.kinds ++ [n] })
    have L := low (x := x) (ws := [kKind, n]) (f := kKind) rfl (b2 := false) (b3 := !isName n) (b4 := x.kinds.contains n) (b5 := false) (b6 := false) (by simp [noLine, countsOf])
      (by simp [wrongWord, rolesOf, wrongWord1, rName, rCost]) (by simp [nameAgain]) (by simp [notThere, rolesOf, isThere, rName, kKind, kFact, kThing, rArg]) (by simp [otherKinds, rolesOf, rName, kFact])
    by_cases h3 : isName n = false
    · rw [if_pos h3]
      refine ⟨?_, by decide⟩
      rw [L, h3] <;> rfl
    · rw [if_neg h3]
      have h3' : isName n = true := by simpa using h3
      by_cases h4 : x.kinds.contains n = true
      · rw [if_pos h4]
        refine ⟨?_, by decide⟩
        rw [L, h3', h4] <;> rfl
      · rw [if_neg h4]
        have h4' : x.kinds.contains n = false := by simpa using h4
        rw [h3', h4'] at L
        have L2 : lowest x [kKind, n] = if 3 ≤ x.kinds.length then 7 else 0 := by
          rw [L]
          show (if mostOf kKind ≤ countTold x kKind then 7 else if ofAct kKind = true ∧ x.acts = [] then 8 else 0) = _
          rw [show mostOf kKind = 3 from rfl, show countTold x kKind = x.kinds.length from rfl, if_neg (by simp [ofAct, kKind, kNeeds, kBars, kBrings, kTakes] : ¬ (ofAct kKind = true ∧ x.acts = []))]
        have hle := hx.kinds.1
        by_cases h7 : x.kinds.length = KINDS
        · rw [if_pos h7]
          have : x.kinds.length = 3 := h7
          refine ⟨?_, by decide⟩
          rw [L2, if_pos (by omega)]
        · rw [if_neg h7]
          have h7' : x.kinds.length ≠ 3 := h7
          refine ⟨?_, .kind h3' (contains_false.mp h4') h7'⟩
          rw [L2, if_neg (by omega)]
  | a :: b :: r => exact ⟨low2 (by simp [noLine, countsOf]), by decide⟩
theorem all_none {α : Type} {f : Bytes → Option α} : ∀ {ws : List Bytes}, all? f ws = none ↔ ∃ w ∈ ws, f w = none
  | [] => by
    constructor
    · intro h
      cases h
    · rintro ⟨w, h, _⟩
      cases h
  | v :: ws => by
    have ih := all_none (f := f) (ws := ws)
    unfold all?
    cases h1 : f v with
    | none => exact ⟨fun _ => ⟨v, List.mem_cons_self .., h1⟩, fun _ => rfl⟩
    | some a =>
      cases h2 : all? f ws with
      | none =>
        obtain ⟨w, hw, e⟩ := ih.mp h2
        exact ⟨fun _ => ⟨w, List.mem_cons_of_mem _ hw, e⟩, fun _ => rfl⟩
      | some r =>
        constructor
        · intro h
          cases h
        rintro ⟨w, hw, e⟩
        rcases List.mem_cons.mp hw with q | q
        · rw [q, h1] at e
          cases e
        · have := ih.mpr ⟨w, q, e⟩
          rw [h2] at this
          cases this
theorem index_none_iff {l : List Bytes} {w : Bytes} : indexOf l w = none ↔ l.contains w = false := by
  rw [contains_false]
  constructor
  · exact index_none
  · intro h
    cases e : indexOf l w with
    | none => rfl
    | some i => exact absurd (index_some e).2.2.1 h
theorem all_none_any {l ws : List Bytes} : all? (indexOf l) ws = none ↔ (ws.any fun w => !l.contains w) = true := by
  rw [all_none, List.any_eq_true]
  constructor
  · rintro ⟨w, hw, e⟩
    exact ⟨w, hw, by rw [index_none_iff.mp e]; rfl⟩
  · rintro ⟨w, hw, e⟩
    exact ⟨w, hw, index_none_iff.mpr (by simpa using e)⟩
/-- a kind's number and its name -/
theorem kind_inj {x : Text} (hx : TextOk x) {i j : Nat} (hi : i < x.kinds.length) (hj : j < x.kinds.length) (e : kindName x i = kindName x j) : i = j := by
  unfold kindName at e
  rw [List.getD_eq_getElem?_getD, List.getD_eq_getElem?_getD, List.getElem?_eq_getElem hi, List.getElem?_eq_getElem hj] at e
  have e' : x.kinds[i] = x.kinds[j] := e
  have h := List.pairwise_iff_getElem.mp hx.kinds.2.1
  rcases Nat.lt_trichotomy i j with q | q | q
  · exact absurd e' (h i j hi hj q)
  · exact q
  · exact absurd e'.symm (h j i hj hi q)
theorem kinds_inj {x : Text} (hx : TextOk x) : ∀ {a b : List Nat}, (∀ i ∈ a, i < x.kinds.length) → (∀ i ∈ b, i < x.kinds.length) → a.map (kindName x) = b.map (kindName x) → a = b
  | [], [], _, _, _ => rfl
  | [], _ :: _, _, _, h => by cases h
  | _ :: _, [], _, _, h => by cases h
  | i :: a, j :: b, ha, hb, h => by
    rw [List.map_cons, List.map_cons] at h
    obtain ⟨h1, h2⟩ := List.cons.inj h
    rw [kind_inj hx (ha i (List.mem_cons_self ..)) (hb j (List.mem_cons_self ..)) h1, kinds_inj hx (fun k hk => ha k (List.mem_cons_of_mem _ hk)) (fun k hk => hb k (List.mem_cons_of_mem _ hk)) h2]
theorem thingKind_lt {x : Text} (hx : TextOk x) {i : Nat} (h : i < x.things.length) : thingKind x i < x.kinds.length := by
  unfold thingKind
  rw [List.getElem?_eq_getElem h]
  exact (hx.things.2.2 _ (List.getElem_mem h)).2
theorem kindsOf_lt {x : Text} (hx : TextOk x) {p : Nat} : ∀ k ∈ kindsOf x p, k < x.kinds.length := by
  intro k hk
  unfold kindsOf at hk
  cases e : x.facts[p]? with
  | none =>
    rw [e] at hk
    cases hk
  | some f =>
    rw [e] at hk
    exact (hx.facts.2.2 f (List.mem_of_getElem? e)).2.2 k hk
theorem ag_thing {x : Text} (hx : TextOk x) (r : List Bytes) : Agrees x (kThing :: r) (readLine x (kThing :: r)) := by
  rw [rl_eq, if_neg (by decide), if_pos rfl]
  match r with
  | [] => exact ⟨low2 (by simp [noLine, countsOf, kThing, kKind]), by decide⟩
  | [_] => exact ⟨low2 (by simp [noLine, countsOf, kThing, kKind]), by decide⟩
  | [n, k] =>
    show Agrees x [kThing, n, k] (if isName n = false ∨ isName k = false then .error 3 else if (names x.things).contains n = true ∨ (x.acts.any fun a => (names a.places).contains n) = true then .error 4 else match indexOf x.kinds k with
        | none => .error 5
        | some i => if x.things.length = THINGS then .error 7 else .ok { x with things := x.things ++ [(n, i)] })
    have L := low (x := x) (ws := [kThing, n, k]) (f := kThing) rfl (b2 := false) (b3 := !isName n || !isName k) (b4 := (names x.things).contains n || isPlace x n) (b5 := !x.kinds.contains k) (b6 := false) (by simp [noLine, countsOf, kThing, kKind])
      (by simp [wrongWord, rolesOf, wrongWord1, rName, rCost, kThing, kKind]) (by simp [nameAgain, kThing, kKind]) (by simp [notThere, rolesOf, isThere, rName, kKind, kFact, kThing, rArg]) (by simp [otherKinds, rolesOf, rName, kFact, kThing, kKind])
    by_cases h3 : isName n = false ∨ isName k = false
    · rw [if_pos h3]
      refine ⟨?_, by decide⟩
      rcases h3 with h3 | h3
      · rw [L, h3] <;> rfl
      · rw [L, h3, Bool.not_false, Bool.or_true] <;> rfl
    · rw [if_neg h3]
      have h3n : isName n = true := by
        cases h : isName n with
        | true => rfl
        | false => exact absurd (.inl h) h3
      have h3k : isName k = true := by
        cases h : isName k with
        | true => rfl
        | false => exact absurd (.inr h) h3
      rw [h3n, h3k] at L
      by_cases h4 : (names x.things).contains n = true ∨ (x.acts.any fun a => (names a.places).contains n) = true
      · rw [if_pos h4]
        refine ⟨?_, by decide⟩
        have : ((names x.things).contains n || isPlace x n) = true := by
          rw [Bool.or_eq_true]
          exact h4
        rw [L, this] <;> rfl
      · rw [if_neg h4]
        have h4a : (names x.things).contains n = false := by
          cases h : (names x.things).contains n with
          | false => rfl
          | true => exact absurd (.inl h) h4
        have h4b : isPlace x n = false := by
          cases h : isPlace x n with
          | false => rfl
          | true => exact absurd (.inr h) h4
        rw [h4a, h4b] at L
        cases h5 : indexOf x.kinds k with
        | none =>
          refine ⟨?_, by decide⟩
          rw [L, index_none_iff.mp h5] <;> rfl
        | some i =>
          have hk := (index_some h5).2.2.1
          rw [contains_iff.mpr hk] at L
          have L2 : lowest x [kThing, n, k] = if 6 ≤ x.things.length then 7 else 0 := by
            rw [L]
            show (if mostOf kThing ≤ countTold x kThing then 7 else if ofAct kThing = true ∧ x.acts = [] then 8 else 0) = _
            rw [show mostOf kThing = 6 from rfl, show countTold x kThing = x.things.length from rfl, if_neg (by simp [ofAct, kThing, kNeeds, kBars, kBrings, kTakes] : ¬ (ofAct kThing = true ∧ x.acts = []))]
          have hle := hx.things.1
          show Agrees x [kThing, n, k] (if x.things.length = THINGS then .error 7 else .ok { x with things := x.things ++ [(n, i)] })
          by_cases h7 : x.things.length = THINGS
          · rw [if_pos h7]
            have : x.things.length = 6 := h7
            refine ⟨?_, by decide⟩
            rw [L2, if_pos (by omega)]
          · rw [if_neg h7]
            have h7' : x.things.length ≠ 6 := h7
            refine ⟨?_, .thing h3n (contains_false.mp h4a) (fun s hs hm => ?_) h5 h7'⟩
            · rw [L2, if_neg (by omega)]
            · have : isPlace x n = true := List.any_eq_true.mpr ⟨s, hs, contains_iff.mpr hm⟩
              rw [h4b] at this
              cases this
  | _ :: _ :: _ :: _ => exact ⟨low2 (by simp [noLine, countsOf, kThing, kKind]), by decide⟩
theorem zip2 {α : Type} {a : α} {l : List Bytes} (h : l.length ≤ 2) (p : α × Bytes → Bool) : (([a, a].zip l).any p) = l.any fun w => p (a, w) := by
  match l, h with
  | [], _ => rfl
  | [_], _ => simp
  | [_, _], _ => simp
theorem any_not {l : List Bytes} {p : Bytes → Bool} : (l.any fun w => !p w) = !l.all p := by
  rw [List.not_all_eq_any_not]
theorem c234 (n : Nat) : ([2, 3, 4] : List Nat).contains n = decide (2 ≤ n ∧ n ≤ 4) := by
  rw [Bool.eq_iff_iff, decide_eq_true_iff, List.contains_iff_mem]
  simp
  omega
theorem ag_fact {x : Text} (hx : TextOk x) (r : List Bytes) : Agrees x (kFact :: r) (readLine x (kFact :: r)) := by
  rw [rl_eq, if_neg (by decide), if_neg (by decide), if_pos rfl]
  match r with
  | [] => exact ⟨low2 (by simp [noLine, countsOf, kThing, kKind, kFact]), by decide⟩
  | n :: l =>
    show Agrees x (kFact :: n :: l) (if 2 < l.length then .error 2 else if (n :: l).all isName = false then .error 3 else if (names x.facts).contains n = true then .error 4 else match all? (indexOf x.kinds) l with
        | none => .error 5
        | some k => if x.facts.length = PREDS then .error 7 else .ok { x with facts := x.facts ++ [(n, k)] })
    by_cases h2 : 2 < l.length
    · rw [if_pos h2]
      refine ⟨low2 ?_, by decide⟩
      have : countsOf kFact = some [2, 3, 4] := by decide
      show (match countsOf kFact with | none => true | some c => !c.contains (l.length + 1 + 1)) = true
      rw [this]
      show (!([2, 3, 4] : List Nat).contains (l.length + 1 + 1)) = true
      rw [c234, decide_eq_false (by omega)] <;> rfl
    · rw [if_neg h2]
      have hl : l.length ≤ 2 := by omega
      have L := low (x := x) (ws := kFact :: n :: l) (f := kFact) rfl (b2 := false) (b3 := !(n :: l).all isName) (b4 := (names x.facts).contains n) (b5 := l.any fun w => !x.kinds.contains w) (b6 := false) (by
          have : countsOf kFact = some [2, 3, 4] := by decide
          show (match countsOf kFact with | none => true | some c => !c.contains (l.length + 1 + 1)) = false
          rw [this]
          show (!([2, 3, 4] : List Nat).contains (l.length + 1 + 1)) = false
          rw [c234, decide_eq_true (by omega)] <;> rfl)
        (by
          show ((rolesOf kFact).zip (n :: l)).any _ = _
          rw [show rolesOf kFact = [rName, kKind, kKind] by decide, List.zip_cons_cons, List.any_cons, zip2 hl, List.all_cons, Bool.not_and, ← any_not] <;> rfl)
        (by simp [nameAgain, kThing, kKind, kFact])
        (by
          show ((rolesOf kFact).zip (n :: l)).any _ = _
          rw [show rolesOf kFact = [rName, kKind, kKind] by decide, List.zip_cons_cons, List.any_cons, zip2 hl] <;> rfl)
        (by simp [otherKinds, rolesOf, rName, kFact, kThing, kKind])
      by_cases h3 : (n :: l).all isName = false
      · rw [if_pos h3]
        refine ⟨?_, by decide⟩
        rw [L, h3] <;> rfl
      · rw [if_neg h3]
        have h3' : (n :: l).all isName = true := by simpa using h3
        rw [h3'] at L
        by_cases h4 : (names x.facts).contains n = true
        · rw [if_pos h4]
          refine ⟨?_, by decide⟩
          rw [L, h4] <;> rfl
        · rw [if_neg h4]
          have h4' : (names x.facts).contains n = false := by simpa using h4
          rw [h4'] at L
          cases h5 : all? (indexOf x.kinds) l with
          | none =>
            refine ⟨?_, by decide⟩
            rw [L, all_none_any.mp h5] <;> rfl
          | some ks =>
            have h5' : (l.any fun w => !x.kinds.contains w) = false := by
              cases h : (l.any fun w => !x.kinds.contains w) with
              | false => rfl
              | true =>
                rw [all_none_any.mpr h] at h5
                cases h5
            rw [h5'] at L
            have L2 : lowest x (kFact :: n :: l) = if 4 ≤ x.facts.length then 7 else 0 := by
              rw [L]
              show (if mostOf kFact ≤ countTold x kFact then 7 else if ofAct kFact = true ∧ x.acts = [] then 8 else 0) = _
              rw [show mostOf kFact = 4 from rfl, show countTold x kFact = x.facts.length from rfl, if_neg (by simp [ofAct, kFact, kNeeds, kBars, kBrings, kTakes] : ¬ (ofAct kFact = true ∧ x.acts = []))]
            have hle := hx.facts.1
            show Agrees x (kFact :: n :: l) (if x.facts.length = PREDS then .error 7 else .ok { x with facts := x.facts ++ [(n, ks)] })
            by_cases h7 : x.facts.length = PREDS
            · rw [if_pos h7]
              have : x.facts.length = 4 := h7
              refine ⟨?_, by decide⟩
              rw [L2, if_pos (by omega)]
            · rw [if_neg h7]
              have h7' : x.facts.length ≠ 4 := h7
              refine ⟨?_, .fact (List.all_eq_true.mp h3' n (List.mem_cons_self ..)) hl (contains_false.mp h4') h5 h7'⟩
              rw [L2, if_neg (by omega)]
theorem distinct_two (p q : Bytes) : distinct [p, q] = !decide (p = q) := by
  unfold distinct
  by_cases h : p = q
  · subst h
    simp [List.eraseDups_cons]
  · have h2 : ¬ q = p := fun e => h e.symm
    simp [List.eraseDups_cons, h, h2]
theorem any_name {as : List Schema} {n : Bytes} : (as.any fun a => a.name == n) = (as.map fun a => a.name).contains n := by
  induction as with
  | nil => rfl
  | cons a r ih =>
    rw [List.any_cons, List.map_cons, List.contains_cons, ih]
    congr 1
    rw [Bool.eq_iff_iff]
    simp
    exact eq_comm
theorem c357 (n : Nat) : ([3, 5, 7] : List Nat).contains n = decide (n = 3 ∨ n = 5 ∨ n = 7) := by
  rw [Bool.eq_iff_iff, decide_eq_true_iff, List.contains_iff_mem]
  simp
theorem distinct_nodup : ∀ {l : List Bytes}, (l.length = 0 ∨ l.length = 2 ∨ l.length = 4) → distinct (names (pairsOf l)) = true → (names (pairsOf l)).Nodup
  | [], _, _ => by simp [pairsOf, names]
  | [a, b], _, _ => by simp [pairsOf, names]
  | [a, b, d, e], _, h => by
    have h6 : distinct [a, d] = true := h
    rw [distinct_two] at h6
    have h8 : ¬ a = d := by simpa using h6
    show [a, d].Nodup
    simp [h8]
  | [_], h, _ => by simp at h
  | [_, _, _], h, _ => by simp at h
  | _ :: _ :: _ :: _ :: _ :: _, h, _ => by simp at h
theorem ag_act {x : Text} (hx : TextOk x) (r : List Bytes) : Agrees x (kAct :: r) (readLine x (kAct :: r)) := by
  rw [rl_eq, if_neg (by decide), if_neg (by decide), if_neg (by decide), if_pos rfl]
  match r with
  | [] => exact ⟨low2 (by decide), by decide⟩
  | [_] => exact ⟨low2 (by simp [noLine, countsOf, kThing, kKind, kFact, kAct]), by decide⟩
  | n :: c :: l =>
    show Agrees x (kAct :: n :: c :: l) (if l.length ≠ 0 ∧ l.length ≠ 2 ∧ l.length ≠ 4 then .error 2 else if (n :: l).all isName = false ∨ (cost? c).isNone = true then .error 3 else
        if (x.acts.any fun a => a.name == n) = true ∨ distinct (names (pairsOf l)) = false ∨ ((names (pairsOf l)).any (names x.things).contains) = true then .error 4 else match all? (indexOf x.kinds) ((pairsOf l).map fun p => p.2) with
          | none => .error 5
          | some k => if x.acts.length = ACTS then .error 7 else .ok { x with acts := x.acts ++ [⟨n, (cost? c).getD 1, (names (pairsOf l)).zip k, [], [], [], []⟩] })
    have hc : countsOf kAct = some [3, 5, 7] := by decide
    by_cases h2 : l.length ≠ 0 ∧ l.length ≠ 2 ∧ l.length ≠ 4
    · rw [if_pos h2]
      refine ⟨low2 ?_, by decide⟩
      show (match countsOf kAct with | none => true | some c => !c.contains (l.length + 1 + 1 + 1)) = true
      rw [hc]
      show (!([3, 5, 7] : List Nat).contains (l.length + 1 + 1 + 1)) = true
      rw [c357, decide_eq_false (by omega)] <;> rfl
    · rw [if_neg h2]
      have hl : l.length = 0 ∨ l.length = 2 ∨ l.length = 4 := by omega
      have n2 : noLine (kAct :: n :: c :: l) = false := by
        show (match countsOf kAct with | none => true | some c => !c.contains (l.length + 1 + 1 + 1)) = false
        rw [hc]
        show (!([3, 5, 7] : List Nat).contains (l.length + 1 + 1 + 1)) = false
        rw [c357, decide_eq_true (by omega)] <;> rfl
      have n3 : wrongWord (kAct :: n :: c :: l) = (!(n :: l).all isName || (cost? c).isNone) := by
        show ((rolesOf kAct).zip (n :: c :: l)).any _ = _
        rw [show rolesOf kAct = [rName, rCost, rPlace, kKind, rPlace, kKind] by decide, List.zip_cons_cons, List.zip_cons_cons, List.any_cons, List.any_cons]
        have e1 : wrongWord1 rName n = !isName n := rfl
        have e2 : wrongWord1 rCost c = (cost? c).isNone := by
          show (!(cost? c).isSome) = _
          cases cost? c <;> rfl
        have e3 : (([rPlace, kKind, rPlace, kKind].zip l).any fun p => wrongWord1 p.1 p.2) = !l.all isName := by
          rw [← any_not]
          match l, hl with
          | [], _ => rfl
          | [a, b], _ => simp [wrongWord1, rPlace, rCost, kKind]
          | [a, b, d, e], _ => simp [wrongWord1, rPlace, rCost, kKind]
          | [_], h => simp at h
          | [_, _, _], h => simp at h
          | _ :: _ :: _ :: _ :: _ :: _, h =>
            simp at h
        rw [e1, e2, e3, List.all_cons, Bool.not_and]
        cases isName n <;> cases (cost? c).isNone <;> cases l.all isName <;> rfl
      have n4 : nameAgain x (kAct :: n :: c :: l) = ((x.acts.any fun a => a.name == n) || (!distinct (names (pairsOf l)) || (names (pairsOf l)).any (names x.things).contains)) := by
        show ((x.acts.map fun a => a.name).contains n || wrongPlaces x (seconds l)) = _
        rw [any_name]
        congr 1
        have e : seconds l = names (pairsOf l) := by
          match l, hl with
          | [], _ => rfl
          | [a, b], _ => rfl
          | [a, b, d, e], _ => rfl
          | [_], h => simp at h
          | [_, _, _], h => simp at h
          | _ :: _ :: _ :: _ :: _ :: _, h =>
            simp at h
        rw [e]
        unfold wrongPlaces
        congr 1
        match l, hl with
        | [], _ => decide
        | [a, b], _ => simp [pairsOf, names, distinct, List.eraseDups_cons]
        | [a, b, d, e], _ =>
          show (decide ((2 : Nat) = 2) && decide (some a = some d)) = !distinct [a, d]
          rw [distinct_two]
          simp
        | [_], h => simp at h
        | [_, _, _], h => simp at h
        | _ :: _ :: _ :: _ :: _ :: _, h =>
          simp at h
      have n5 : notThere x (kAct :: n :: c :: l) = ((pairsOf l).map fun p => p.2).any fun w => !x.kinds.contains w := by
        show ((rolesOf kAct).zip (n :: c :: l)).any _ = _
        rw [show rolesOf kAct = [rName, rCost, rPlace, kKind, rPlace, kKind] by decide, List.zip_cons_cons, List.zip_cons_cons, List.any_cons, List.any_cons]
        show (false || (false || (([rPlace, kKind, rPlace, kKind].zip l).any fun p => !isThere x p.1 p.2))) = _
        rw [Bool.false_or, Bool.false_or]
        match l, hl with
        | [], _ => rfl
        | [a, b], _ => simp [isThere, rPlace, kKind, kFact, kThing, rArg, pairsOf]
        | [a, b, d, e], _ => simp [isThere, rPlace, kKind, kFact, kThing, rArg, pairsOf]
        | [_], h => simp at h
        | [_, _, _], h => simp at h
        | _ :: _ :: _ :: _ :: _ :: _, h =>
          simp at h
      have L := low (x := x) (ws := kAct :: n :: c :: l) (f := kAct) rfl n2 n3 n4 n5 (b6 := false) (by simp [otherKinds, rolesOf, rName, kFact, kThing, kKind, kAct])
      by_cases h3 : (n :: l).all isName = false ∨ (cost? c).isNone = true
      · rw [if_pos h3]
        refine ⟨?_, by decide⟩
        have : (!(n :: l).all isName || (cost? c).isNone) = true := by
          rcases h3 with h | h
          · rw [h] <;> rfl
          · rw [h, Bool.or_true]
        rw [L, this] <;> rfl
      · rw [if_neg h3]
        have h3a : (n :: l).all isName = true := by
          cases h : (n :: l).all isName with
          | true => rfl
          | false => exact absurd (.inl h) h3
        have h3b : (cost? c).isNone = false := by
          cases h : (cost? c).isNone with
          | false => rfl
          | true => exact absurd (.inr h) h3
        rw [h3a, h3b] at L
        by_cases h4 : (x.acts.any fun a => a.name == n) = true ∨ distinct (names (pairsOf l)) = false ∨ ((names (pairsOf l)).any (names x.things).contains) = true
        · rw [if_pos h4]
          refine ⟨?_, by decide⟩
          have : ((x.acts.any fun a => a.name == n) || (!distinct (names (pairsOf l)) || (names (pairsOf l)).any (names x.things).contains)) = true := by
            rcases h4 with h | h | h
            · rw [h] <;> rfl
            · rw [h, Bool.not_false, Bool.true_or, Bool.or_true]
            · rw [h, Bool.or_true, Bool.or_true]
          rw [L, this] <;> rfl
        · rw [if_neg h4]
          have h4a : (x.acts.any fun a => a.name == n) = false := by
            cases h : (x.acts.any fun a => a.name == n) with
            | false => rfl
            | true => exact absurd (.inl h) h4
          have h4b : distinct (names (pairsOf l)) = true := by
            cases h : distinct (names (pairsOf l)) with
            | true => rfl
            | false => exact absurd (.inr (.inl h)) h4
          have h4c : ((names (pairsOf l)).any (names x.things).contains) = false := by
            cases h : ((names (pairsOf l)).any (names x.things).contains) with
            | false => rfl
            | true => exact absurd (.inr (.inr h)) h4
          rw [h4a, h4b, h4c] at L
          cases h5 : all? (indexOf x.kinds) ((pairsOf l).map fun p => p.2) with
          | none =>
            refine ⟨?_, by decide⟩
            rw [L, all_none_any.mp h5] <;> rfl
          | some ks =>
            have h5' : (((pairsOf l).map fun p => p.2).any fun w => !x.kinds.contains w) = false := by
              cases h : (((pairsOf l).map fun p => p.2).any fun w => !x.kinds.contains w) with
              | false => rfl
              | true =>
                rw [all_none_any.mpr h] at h5
                cases h5
            rw [h5'] at L
            have L2 : lowest x (kAct :: n :: c :: l) = if 4 ≤ x.acts.length then 7 else 0 := by
              rw [L]
              show (if mostOf kAct ≤ countTold x kAct then 7 else if ofAct kAct = true ∧ x.acts = [] then 8 else 0) = _
              rw [show mostOf kAct = 4 from rfl, show countTold x kAct = x.acts.length from rfl, if_neg (by simp [ofAct, kAct, kNeeds, kBars, kBrings, kTakes] : ¬ (ofAct kAct = true ∧ x.acts = []))]
            have hle := hx.acts.1
            show Agrees x (kAct :: n :: c :: l) (if x.acts.length = ACTS then .error 7 else .ok { x with acts := x.acts ++ [⟨n, (cost? c).getD 1, (names (pairsOf l)).zip ks, [], [], [], []⟩] })
            by_cases h7 : x.acts.length = ACTS
            · rw [if_pos h7]
              have : x.acts.length = 4 := h7
              refine ⟨?_, by decide⟩
              rw [L2, if_pos (by omega)]
            · rw [if_neg h7]
              have h7' : x.acts.length ≠ 4 := h7
              obtain ⟨co, hco⟩ : ∃ co, cost? c = some co := by
                cases h : cost? c with
                | none =>
                  rw [h] at h3b
                  cases h3b
                | some co => exact ⟨co, rfl⟩
              have hd : (names (pairsOf l)).Nodup := distinct_nodup hl h4b
              refine ⟨?_, ?_⟩
              · rw [L2, if_neg (by omega)]
              · rw [hco]
                refine .act (List.all_eq_true.mp h3a n (List.mem_cons_self ..)) hco hl (fun w hw => List.all_eq_true.mp h3a w (List.mem_cons_of_mem _ hw)) ?_ hd (fun p hp hm => ?_) h5 h7'
                · rw [any_name] at h4a
                  exact contains_false.mp h4a
                · have : ((names (pairsOf l)).any (names x.things).contains) = true := List.any_eq_true.mpr ⟨p, hp, contains_iff.mpr hm⟩
                  rw [h4c] at this
                  cases this
/-! ### a line of an act's, what's said -/
theorem lastPlaces_eq (x : Text) : lastPlaces x = names (x.acts.getLast?.getD none_).places := by
  unfold lastPlaces
  cases x.acts.getLast? with
  | none => rfl
  | some s => rfl
/-- what may be said of the last act, or of none -/
theorem last_ok {x : Text} (hx : TextOk x) : (∀ p ∈ (x.acts.getLast?.getD none_).places, p.2 < x.kinds.length) ∧ (∀ p ∈ names (x.acts.getLast?.getD none_).places, p ∉ names x.things) ∧ (x.acts.getLast?.getD none_).needs.length ≤ 6 ∧ (x.acts.getLast?.getD none_).bars.length ≤ 6 ∧ (x.acts.getLast?.getD none_).brings.length ≤ 6 ∧ (x.acts.getLast?.getD none_).takes.length ≤ 6 := by
  cases h : x.acts.getLast? with
  | none =>
    refine ⟨fun p hp => ?_, fun p hp => ?_, by decide, by decide, by decide, by decide⟩ <;> exact nomatch hp
  | some s =>
    have hs := hx.acts.2.2 s (List.mem_of_getLast? h)
    exact ⟨fun p hp => (hs.places p hp).2, hs.things, hs.needs.1, hs.bars.1, hs.brings.1, hs.takes.1⟩
theorem arg_none {x : Text} {s : Schema} {w : Bytes} : arg? x s w = none ↔ ((names x.things).contains w || (names s.places).contains w) = false := by
  unfold arg?
  cases h : indexOf (names s.places) w with
  | some i =>
    have hm := (index_some h).2.2.1
    rw [contains_iff.mpr hm, Bool.or_true]
    constructor
    · intro e
      cases e
    · intro e
      cases e
  | none =>
    have hm := index_none h
    rw [contains_false.mpr hm, Bool.or_false]
    show Option.map Arg.thing (indexOf (names x.things) w) = none ↔ _
    rw [Option.map_eq_none_iff]
    exact index_none_iff
/-- an argument's kind, by its name -/
theorem argKind_is {x : Text} (hx : TextOk x) {w : Bytes} {a : Arg} (h : arg? x (x.acts.getLast?.getD none_) w = some a) : argKind x w = kindName x (kindOf x (x.acts.getLast?.getD none_) a) ∧ kindOf x (x.acts.getLast?.getD none_) a < x.kinds.length ∧ argOk x (x.acts.getLast?.getD none_) a ∧ argName x (x.acts.getLast?.getD none_) a = w := by
  obtain ⟨lk, lt, _⟩ := last_ok hx
  generalize hs : x.acts.getLast?.getD none_ = s at h lk lt
  unfold arg? at h
  cases h1 : indexOf (names s.places) w with
  | some i =>
    rw [h1] at h
    have e : Arg.place i = a := Option.some.inj h
    subst e
    obtain ⟨g1, g2, g3, g4⟩ := index_some h1
    have g1' : i < s.places.length := by simpa [names] using g1
    have hn : (names x.things).contains w = false := contains_false.mpr (lt w g3)
    refine ⟨?_, ?_, g1', g2⟩
    · unfold argKind
      rw [hn, if_neg Bool.false_ne_true]
      show kindName x ((Option.map (fun p => p.2) ((x.acts.getLast?.getD none_).places[(names (x.acts.getLast?.getD none_).places).idxOf w]?)).getD 0) = _
      rw [hs, index_eq h1] <;> rfl
    · show ((s.places[i]?).map fun p => p.2).getD 0 < _
      rw [List.getElem?_eq_getElem g1']
      exact lk _ (List.getElem_mem g1')
  | none =>
    rw [h1] at h
    obtain ⟨k, hk, e⟩ := Option.map_eq_some_iff.mp h
    subst e
    obtain ⟨g1, g2, g3, g4⟩ := index_some hk
    have g1' : k < x.things.length := by simpa [names] using g1
    refine ⟨?_, thingKind_lt hx g1', g1', g2⟩
    unfold argKind
    rw [contains_iff.mpr g3, if_pos rfl, index_eq hk] <;> rfl
theorem args_kinds {x : Text} (hx : TextOk x) : ∀ {a : List Bytes} {l : List Arg}, all? (arg? x (x.acts.getLast?.getD none_)) a = some l → a.map (argKind x) = (l.map (kindOf x (x.acts.getLast?.getD none_))).map (kindName x) ∧ ∀ k ∈ l.map (kindOf x (x.acts.getLast?.getD none_)), k < x.kinds.length
  | [], l, h => by
    have e : [] = l := Option.some.inj h
    subst e
    exact ⟨rfl, fun k hk => nomatch hk⟩
  | w :: a, l, h => by
    unfold all? at h
    cases h1 : arg? x (x.acts.getLast?.getD none_) w with
    | none =>
      rw [h1] at h
      cases h
    | some b =>
      cases h2 : all? (arg? x (x.acts.getLast?.getD none_)) a with
      | none =>
        rw [h1, h2] at h
        cases h
      | some r =>
        rw [h1, h2] at h
        have e : b :: r = l := Option.some.inj h
        subst e
        obtain ⟨i1, i2⟩ := args_kinds hx h2
        obtain ⟨g1, g2, _, _⟩ := argKind_is hx h1
        refine ⟨?_, fun k hk => ?_⟩
        · rw [List.map_cons, List.map_cons, List.map_cons, g1, i1]
        · rcases List.mem_cons.mp hk with q | q
          · rw [q]
            exact g2
          · exact i2 k q
theorem kinds_ne {x : Text} (hx : TextOk x) {ks : List Nat} {p : Nat} (h : ∀ k ∈ ks, k < x.kinds.length) : (ks.map (kindName x) ≠ factKinds x p) ↔ ks ≠ kindsOf x p := by
  constructor
  · intro q e
    exact q (by rw [e]; rfl)
  · intro q e
    exact q (kinds_inj hx h (kindsOf_lt hx) e)
theorem lits_which {x : Text} {f : Bytes} (hf : ofAct f = true) : mostOf f = 6 ∧ countTold x f = (litsOf (which f) (x.acts.getLast?.getD none_)).length ∧ rolesOf f = [kFact, rArg, rArg] ∧ countsOf f = some [2, 3, 4] ∧ nameAgain x = (fun ws => nameAgain x ws) := by
  have h : f = kNeeds ∨ f = kBars ∨ f = kBrings ∨ f = kTakes := of_decide_eq_true hf
  rcases h with h | h | h | h <;> subst h <;> exact ⟨rfl, rfl, by decide, by decide, rfl⟩
theorem ag_lit {x : Text} (hx : TextOk x) {f : Bytes} (hf : ofAct f = true) (r : List Bytes) : Agrees x (f :: r) (readLit x (which f) r) := by
  obtain ⟨hm, hcT, hro, hco, _⟩ := lits_which (x := x) hf
  match r with
  | [] =>
    refine ⟨low2 ?_, by decide⟩
    show (match countsOf f with | none => true | some c => !c.contains 1) = true
    rw [hco] <;> rfl
  | p :: a =>
    show Agrees x (f :: p :: a) (if 2 < a.length then .error 2 else if (p :: a).all isName = false then .error 3 else
      match indexOf (names x.facts) p, all? (arg? x (x.acts.getLast?.getD none_)) a with
      | some n, some l => if l.map (kindOf x (x.acts.getLast?.getD none_)) ≠ kindsOf x n then .error 6 else if (litsOf (which f) (x.acts.getLast?.getD none_)).length = LITS then .error 7 else if x.acts = [] then .error 8 else .ok { x with acts := x.acts.dropLast ++ [addLit (which f) (n, l) (x.acts.getLast?.getD none_)] }
      | _, _ => .error 5)
    by_cases h2 : 2 < a.length
    · rw [if_pos h2]
      refine ⟨low2 ?_, by decide⟩
      show (match countsOf f with | none => true | some c => !c.contains (a.length + 1 + 1)) = true
      rw [hco]
      show (!([2, 3, 4] : List Nat).contains (a.length + 1 + 1)) = true
      rw [c234, decide_eq_false (by omega)] <;> rfl
    · rw [if_neg h2]
      have hl : a.length ≤ 2 := by omega
      have n2 : noLine (f :: p :: a) = false := by
        show (match countsOf f with | none => true | some c => !c.contains (a.length + 1 + 1)) = false
        rw [hco]
        show (!([2, 3, 4] : List Nat).contains (a.length + 1 + 1)) = false
        rw [c234, decide_eq_true (by omega)] <;> rfl
      have n3 : wrongWord (f :: p :: a) = !(p :: a).all isName := by
        show ((rolesOf f).zip (p :: a)).any _ = _
        rw [hro, List.zip_cons_cons, List.any_cons, zip2 hl, List.all_cons, Bool.not_and, ← any_not] <;> rfl
      have n4 : nameAgain x (f :: p :: a) = false := by
        have h : f = kNeeds ∨ f = kBars ∨ f = kBrings ∨ f = kTakes := of_decide_eq_true hf
        rcases h with h | h | h | h <;> subst h <;> rfl
      have n5 : notThere x (f :: p :: a) = (!(names x.facts).contains p || a.any fun w => !((names x.things).contains w || (lastPlaces x).contains w)) := by
        show ((rolesOf f).zip (p :: a)).any _ = _
        rw [hro, List.zip_cons_cons, List.any_cons, zip2 hl] <;> rfl
      have n6 : otherKinds x (f :: p :: a) = decide (a.map (argKind x) ≠ factKinds x ((names x.facts).idxOf p)) := by
        show (if (rolesOf f).headD [] = kFact then _ else _) = _
        rw [hro]
        exact if_pos rfl
      have L := low (x := x) (ws := f :: p :: a) (f := f) rfl n2 n3 n4 n5 n6
      by_cases h3 : (p :: a).all isName = false
      · rw [if_pos h3]
        refine ⟨?_, by decide⟩
        rw [L, h3] <;> rfl
      · rw [if_neg h3]
        have h3' : (p :: a).all isName = true := by simpa using h3
        rw [h3'] at L
        cases h5 : indexOf (names x.facts) p with
        | none =>
          refine ⟨?_, by decide⟩
          rw [L, index_none_iff.mp h5] <;> rfl
        | some n =>
          have h5' := contains_iff.mpr (index_some h5).2.2.1
          cases h6 : all? (arg? x (x.acts.getLast?.getD none_)) a with
          | none =>
            refine ⟨?_, by decide⟩
            obtain ⟨w, hw, ew⟩ := all_none.mp h6
            have : (a.any fun w => !((names x.things).contains w || (lastPlaces x).contains w)) = true := List.any_eq_true.mpr ⟨w, hw, by rw [lastPlaces_eq, arg_none.mp ew]; rfl⟩
            rw [L, h5', this] <;> rfl
          | some l =>
            have h6' : (a.any fun w => !((names x.things).contains w || (lastPlaces x).contains w)) = false := by
              cases h : (a.any fun w => !((names x.things).contains w || (lastPlaces x).contains w)) with
              | false => rfl
              | true =>
                obtain ⟨w, hw, ew⟩ := List.any_eq_true.mp h
                rw [lastPlaces_eq] at ew
                have := all_none.mpr ⟨w, hw, arg_none.mpr (by simpa using ew)⟩
                rw [h6] at this
                cases this
            obtain ⟨k1, k2⟩ := args_kinds hx h6
            have hk := kinds_ne hx (p := n) k2
            rw [← k1] at hk
            rw [h5', h6', index_eq h5] at L
            show Agrees x (f :: p :: a) (if l.map (kindOf x (x.acts.getLast?.getD none_)) ≠ kindsOf x n then .error 6 else if (litsOf (which f) (x.acts.getLast?.getD none_)).length = LITS then .error 7 else if x.acts = [] then .error 8 else .ok { x with acts := x.acts.dropLast ++ [addLit (which f) (n, l) (x.acts.getLast?.getD none_)] })
            by_cases h7 : l.map (kindOf x (x.acts.getLast?.getD none_)) ≠ kindsOf x n
            · rw [if_pos h7]
              refine ⟨?_, by decide⟩
              rw [L, decide_eq_true (hk.mpr h7)] <;> rfl
            · rw [if_neg h7]
              rw [decide_eq_false (fun z => h7 (hk.mp z))] at L
              have L2 : lowest x (f :: p :: a) = if 6 ≤ (litsOf (which f) (x.acts.getLast?.getD none_)).length then 7 else if x.acts = [] then 8 else 0 := by
                rw [L]
                show (if mostOf f ≤ countTold x f then 7 else if ofAct f = true ∧ x.acts = [] then 8 else 0) = _
                rw [hm, hcT, hf]
                by_cases q : x.acts = []
                · rw [if_pos q, if_pos (⟨rfl, q⟩ : true = true ∧ x.acts = [])]
                · rw [if_neg q, if_neg (fun z : true = true ∧ x.acts = [] => q z.2)]
              have hle : (litsOf (which f) (x.acts.getLast?.getD none_)).length ≤ 6 := by
                obtain ⟨_, _, g1, g2, g3, g4⟩ := last_ok hx
                unfold litsOf
                split
                · exact g1
                · split
                  · exact g2
                  · split
                    · exact g3
                    · exact g4
              by_cases h8 : (litsOf (which f) (x.acts.getLast?.getD none_)).length = LITS
              · rw [if_pos h8]
                refine ⟨?_, by decide⟩
                have : (litsOf (which f) (x.acts.getLast?.getD none_)).length = 6 := h8
                rw [L2, if_pos (by omega)]
              · rw [if_neg h8]
                have h8' : (litsOf (which f) (x.acts.getLast?.getD none_)).length ≠ 6 := h8
                rw [if_neg (by omega)] at L2
                by_cases h9 : x.acts = []
                · rw [if_pos h9]
                  refine ⟨?_, by decide⟩
                  rw [L2, if_pos h9]
                · rw [if_neg h9]
                  refine ⟨by rw [L2, if_neg h9], ?_⟩
                  obtain ⟨s, hs⟩ : ∃ s, x.acts.getLast? = some s := by
                    cases e : x.acts.getLast? with
                    | none => exact absurd (List.getLast?_eq_none_iff.mp e) h9
                    | some s => exact ⟨s, rfl⟩
                  have hsplit : x.acts = x.acts.dropLast ++ [s] := by
                    obtain ⟨ys, hy⟩ := List.getLast?_eq_some_iff.mp hs
                    rw [hy]
                    simp
                  rw [hs] at h6 h7 h8' ⊢
                  have h7' : l.map (kindOf x s) = kindsOf x n := Classical.byContradiction fun z => h7 z
                  exact .lit hf hsplit hl h5 h6 h7' h8'
theorem thingKinds {x : Text} (hx : TextOk x) : ∀ {a : List Bytes} {k : List Nat}, all? (indexOf (names x.things)) a = some k → a.map (argKind x) = (k.map (thingKind x)).map (kindName x) ∧ ∀ i ∈ k.map (thingKind x), i < x.kinds.length
  | [], l, h => by
    have e : [] = l := Option.some.inj h
    subst e
    exact ⟨rfl, fun k hk => nomatch hk⟩
  | w :: a, l, h => by
    unfold all? at h
    cases h1 : indexOf (names x.things) w with
    | none =>
      rw [h1] at h
      cases h
    | some b =>
      cases h2 : all? (indexOf (names x.things)) a with
      | none =>
        rw [h1, h2] at h
        cases h
      | some r =>
        rw [h1, h2] at h
        have e : b :: r = l := Option.some.inj h
        subst e
        obtain ⟨i1, i2⟩ := thingKinds hx h2
        obtain ⟨g1, g2, g3, g4⟩ := index_some h1
        have g1' : b < x.things.length := by simpa [names] using g1
        refine ⟨?_, fun k hk => ?_⟩
        · rw [List.map_cons, List.map_cons, List.map_cons, ← i1]
          congr 1
          unfold argKind
          rw [contains_iff.mpr g3, if_pos rfl, index_eq h1]
        · rcases List.mem_cons.mp hk with q | q
          · rw [q]
            exact thingKind_lt hx g1'
          · exact i2 k q
/-- what's said: now (b) or want -/
theorem ag_said {x : Text} (hx : TextOk x) {f : Bytes} {L0 : List (Nat × List Nat)} {mk : List (Nat × List Nat) → Text} (hro : rolesOf f = [kFact, kThing, kThing]) (hco : countsOf f = some [2, 3, 4]) (hna : ∀ ws, ws.headD [] = f → nameAgain x ws = false) (hm : mostOf f = 12) (hcT : countTold x f = L0.length) (hoa : ofAct f = false) (hle : L0.length ≤ 12)
    (st : ∀ p a n k, a.length ≤ 2 → indexOf (names x.facts) p = some n → all? (indexOf (names x.things)) a = some k → k.map (thingKind x) = kindsOf x n → L0.length ≠ 12 → Step x (f :: p :: a) (mk (L0 ++ [(n, k)]))) (r : List Bytes) :
    Agrees x (f :: r) (match readSaid x L0 r with | .ok l => .ok (mk l) | .error e => .error e) := by
  match r with
  | [] =>
    refine ⟨low2 ?_, by decide⟩
    show (match countsOf f with | none => true | some c => !c.contains 1) = true
    rw [hco] <;> rfl
  | p :: a =>
    have e0 : readSaid x L0 (p :: a) = (if 2 < a.length then .error 2 else if (p :: a).all isName = false then .error 3 else match indexOf (names x.facts) p, all? (indexOf (names x.things)) a with
      | some n, some k => if k.map (thingKind x) ≠ kindsOf x n then .error 6 else if L0.length = SAID then .error 7 else .ok (L0 ++ [(n, k)])
      | _, _ => .error 5) := rfl
    rw [e0]
    by_cases h2 : 2 < a.length
    · rw [if_pos h2]
      refine ⟨low2 ?_, by decide⟩
      show (match countsOf f with | none => true | some c => !c.contains (a.length + 1 + 1)) = true
      rw [hco]
      show (!([2, 3, 4] : List Nat).contains (a.length + 1 + 1)) = true
      rw [c234, decide_eq_false (by omega)] <;> rfl
    · rw [if_neg h2]
      have hl : a.length ≤ 2 := by omega
      have n2 : noLine (f :: p :: a) = false := by
        show (match countsOf f with | none => true | some c => !c.contains (a.length + 1 + 1)) = false
        rw [hco]
        show (!([2, 3, 4] : List Nat).contains (a.length + 1 + 1)) = false
        rw [c234, decide_eq_true (by omega)] <;> rfl
      have n3 : wrongWord (f :: p :: a) = !(p :: a).all isName := by
        show ((rolesOf f).zip (p :: a)).any _ = _
        rw [hro, List.zip_cons_cons, List.any_cons, zip2 hl, List.all_cons, Bool.not_and, ← any_not] <;> rfl
      have n5 : notThere x (f :: p :: a) = (!(names x.facts).contains p || a.any fun w => !(names x.things).contains w) := by
        show ((rolesOf f).zip (p :: a)).any _ = _
        rw [hro, List.zip_cons_cons, List.any_cons, zip2 hl] <;> rfl
      have n6 : otherKinds x (f :: p :: a) = decide (a.map (argKind x) ≠ factKinds x ((names x.facts).idxOf p)) := by
        show (if (rolesOf f).headD [] = kFact then _ else _) = _
        rw [hro]
        exact if_pos rfl
      have L := low (x := x) (ws := f :: p :: a) (f := f) rfl n2 n3 (hna _ rfl) n5 n6
      by_cases h3 : (p :: a).all isName = false
      · rw [if_pos h3]
        refine ⟨?_, by decide⟩
        rw [L, h3] <;> rfl
      · rw [if_neg h3]
        have h3' : (p :: a).all isName = true := by simpa using h3
        rw [h3'] at L
        cases h5 : indexOf (names x.facts) p with
        | none =>
          refine ⟨?_, by decide⟩
          rw [L, index_none_iff.mp h5] <;> rfl
        | some n =>
          have h5' := contains_iff.mpr (index_some h5).2.2.1
          cases h6 : all? (indexOf (names x.things)) a with
          | none =>
            refine ⟨?_, by decide⟩
            rw [L, h5', all_none_any.mp h6] <;> rfl
          | some k =>
            have h6' : (a.any fun w => !(names x.things).contains w) = false := by
              cases h : (a.any fun w => !(names x.things).contains w) with
              | false => rfl
              | true =>
                rw [all_none_any.mpr h] at h6
                cases h6
            obtain ⟨k1, k2⟩ := thingKinds hx h6
            have hk := kinds_ne hx (p := n) k2
            rw [← k1] at hk
            rw [h5', h6', index_eq h5] at L
            show Agrees x (f :: p :: a) (match (if k.map (thingKind x) ≠ kindsOf x n then .error 6 else if L0.length = SAID then .error 7 else .ok (L0 ++ [(n, k)]) : Except Nat (List (Nat × List Nat))) with | .ok l => .ok (mk l) | .error e => .error e)
            by_cases h7 : k.map (thingKind x) ≠ kindsOf x n
            · rw [if_pos h7]
              refine ⟨?_, by decide⟩
              rw [L, decide_eq_true (hk.mpr h7)] <;> rfl
            · rw [if_neg h7]
              rw [decide_eq_false (fun z => h7 (hk.mp z))] at L
              have L2 : lowest x (f :: p :: a) = if 12 ≤ L0.length then 7 else 0 := by
                rw [L]
                show (if mostOf f ≤ countTold x f then 7 else if ofAct f = true ∧ x.acts = [] then 8 else 0) = _
                rw [hm, hcT, hoa, if_neg (fun z : false = true ∧ x.acts = [] => nomatch z.1)]
              by_cases h8 : L0.length = SAID
              · rw [if_pos h8]
                refine ⟨?_, by decide⟩
                have : L0.length = 12 := h8
                rw [L2, if_pos (by omega)]
              · rw [if_neg h8]
                have h8' : L0.length ≠ 12 := h8
                exact ⟨by rw [L2, if_neg (by omega)], st p a n k hl h5 h6 (Classical.byContradiction fun z => h7 z) h8'⟩
/-- **the program's lowest fault is the specification's** -/
theorem agrees {x : Text} (hx : TextOk x) (f : Bytes) (r : List Bytes) : Agrees x (f :: r) (readLine x (f :: r)) := by
  by_cases h1 : f = kKind
  · subst h1
    exact ag_kind hx r
  by_cases h2 : f = kThing
  · subst h2
    exact ag_thing hx r
  by_cases h3 : f = kFact
  · subst h3
    exact ag_fact hx r
  by_cases h4 : f = kAct
  · subst h4
    exact ag_act hx r
  rw [rl_eq, if_neg h1, if_neg h2, if_neg h3, if_neg h4]
  by_cases h5 : f = kNeeds
  · subst h5
    rw [if_pos rfl]
    exact ag_lit hx (by decide) r
  by_cases h6 : f = kBars
  · subst h6
    rw [if_neg h5, if_pos rfl]
    exact ag_lit hx (by decide) r
  by_cases h7 : f = kBrings
  · subst h7
    rw [if_neg h5, if_neg h6, if_pos rfl]
    exact ag_lit hx (by decide) r
  by_cases h8 : f = kTakes
  · subst h8
    rw [if_neg h5, if_neg h6, if_neg h7, if_pos rfl]
    exact ag_lit hx (by decide) r
  rw [if_neg h5, if_neg h6, if_neg h7, if_neg h8]
  by_cases h9 : f = kNow
  · subst h9
    rw [if_pos rfl]
    exact ag_said hx (mk := fun l => { x with now := l }) (by decide) (by decide) (fun ws e => by unfold nameAgain; rw [e]; rfl) rfl rfl (by decide) hx.now.1 (fun p a n k g1 g2 g3 g4 g5 => .now g1 g2 g3 g4 g5) r
  by_cases h10 : f = kWant
  · subst h10
    rw [if_neg h9, if_pos rfl]
    exact ag_said hx (mk := fun l => { x with want := l }) (by decide) (by decide) (fun ws e => by unfold nameAgain; rw [e]; rfl) rfl rfl (by decide) hx.want.1 (fun p a n k g1 g2 g3 g4 g5 => .want g1 g2 g3 g4 g5) r
  rw [if_neg h9, if_neg h10]
  refine ⟨low2 ?_, by decide⟩
  show (match countsOf f with | none => true | some c => !c.contains (r.length + 1)) = true
  have : countsOf f = none := by
    unfold countsOf
    rw [if_neg h1, if_neg h2, if_neg h3, if_neg h4, if_neg]
    rintro (h | h | h | h | h | h)
    · exact h5 h
    · exact h6 h
    · exact h7 h
    · exact h8 h
    · exact h9 h
    · exact h10 h
  rw [this]
/-! ### a line keeps a text as it may be -/
theorem pairs_len : ∀ {l : List Bytes}, (l.length = 0 ∨ l.length = 2 ∨ l.length = 4) → (pairsOf l).length ≤ 2
  | [], _ => by simp [pairsOf]
  | [_, _], _ => by simp [pairsOf]
  | [_, _, _, _], _ => by simp [pairsOf]
  | [_], h => by simp at h
  | [_, _, _], h => by simp at h
  | _ :: _ :: _ :: _ :: _ :: _, h => by simp at h
theorem pairs_mem : ∀ {l : List Bytes} {p : Bytes × Bytes}, p ∈ pairsOf l → p.1 ∈ l ∧ p.2 ∈ l
  | a :: b :: r, p, h => by
    rcases List.mem_cons.mp h with e | h
    · subst e
      exact ⟨List.mem_cons_self .., List.mem_cons_of_mem _ (List.mem_cons_self ..)⟩
    · obtain ⟨h1, h2⟩ := pairs_mem h
      exact ⟨List.mem_cons_of_mem _ (List.mem_cons_of_mem _ h1), List.mem_cons_of_mem _ (List.mem_cons_of_mem _ h2)⟩
  | [], p, h => nomatch h
  | [_], p, h => nomatch h
theorem names_zip {α : Type} : ∀ {ns : List Bytes} {ks : List α}, ns.length = ks.length → names (ns.zip ks) = ns
  | [], [], _ => rfl
  | [], _ :: _, h => by cases h
  | _ :: _, [], h => by cases h
  | n :: ns, k :: ks, h => by
    have ih := names_zip (ns := ns) (ks := ks) (by simpa using h)
    unfold names at ih ⊢
    rw [List.zip_cons_cons, List.map_cons, ih]
theorem cost_range {c : Bytes} {n : Nat} (h : cost? c = some n) : 1 ≤ n ∧ n ≤ 999 := by
  unfold cost? at h
  split at h
  · rename_i q
    obtain ⟨q1, q2, q3, q4⟩ := q
    have e : c.foldl (fun n b => 10 * n + (b - 48)) 0 = n := Option.some.inj h
    have dig : ∀ b ∈ c, 48 ≤ b ∧ b ≤ 57 := fun b hb => by
      have := List.all_eq_true.mp q3 b hb
      unfold isDigit at this
      rw [Bool.and_eq_true, decide_eq_true_iff, decide_eq_true_iff] at this
      exact this
    match c, q1, q2, q4, dig, e with
    | [a], _, _, q4, dig, e =>
      have h1 := dig a (by simp)
      have h2 : a ≠ 48 := q4
      simp only [List.foldl] at e
      omega
    | [a, b], _, _, q4, dig, e =>
      have h1 := dig a (by simp)
      have h3 := dig b (by simp)
      have h2 : a ≠ 48 := q4
      simp only [List.foldl] at e
      omega
    | [a, b, d], _, _, q4, dig, e =>
      have h1 := dig a (by simp)
      have h3 := dig b (by simp)
      have h4 := dig d (by simp)
      have h2 : a ≠ 48 := q4
      simp only [List.foldl] at e
      omega
    | _ :: _ :: _ :: _ :: _, _, q2, _, _, _ =>
      simp at q2
  · cases h
theorem arg_ok {x : Text} {s : Schema} {w : Bytes} {a : Arg} (h : arg? x s w = some a) : argOk x s a ∧ argName x s a = w := by
  unfold arg? at h
  cases h1 : indexOf (names s.places) w with
  | some i =>
    rw [h1] at h
    have e : Arg.place i = a := Option.some.inj h
    subst e
    obtain ⟨g1, g2, _⟩ := index_some h1
    have g : i < s.places.length := by simpa [names] using g1
    exact ⟨g, g2⟩
  | none =>
    rw [h1] at h
    obtain ⟨k, hk, e⟩ := Option.map_eq_some_iff.mp h
    subst e
    obtain ⟨g1, g2, _⟩ := index_some hk
    have g : k < x.things.length := by simpa [names] using g1
    exact ⟨g, g2⟩
theorem all_names {x : Text} {s : Schema} : ∀ {a : List Bytes} {l : List Arg}, all? (arg? x s) a = some l → l.map (argName x s) = a
  | [], l, h => by
    have e : [] = l := Option.some.inj h
    subst e
    rfl
  | w :: a, l, h => by
    unfold all? at h
    cases h1 : arg? x s w with
    | none =>
      rw [h1] at h
      cases h
    | some b =>
      cases h2 : all? (arg? x s) a with
      | none =>
        rw [h1, h2] at h
        cases h
      | some r =>
        rw [h1, h2] at h
        have e : b :: r = l := Option.some.inj h
        subst e
        rw [List.map_cons, all_names h2, (arg_ok h1).2]
theorem all_index {l : List Bytes} : ∀ {a : List Bytes} {k : List Nat}, all? (indexOf l) a = some k → k.map (fun i => l.getD i []) = a ∧ (∀ i ∈ k, i < l.length) ∧ k.length = a.length
  | [], k, h => by
    have e : [] = k := Option.some.inj h
    subst e
    exact ⟨rfl, fun i hi => (nomatch hi), rfl⟩
  | w :: a, k, h => by
    unfold all? at h
    cases h1 : indexOf l w with
    | none =>
      rw [h1] at h
      cases h
    | some b =>
      cases h2 : all? (indexOf l) a with
      | none =>
        rw [h1, h2] at h
        cases h
      | some r =>
        rw [h1, h2] at h
        have e : b :: r = k := Option.some.inj h
        subst e
        obtain ⟨i1, i2, i3⟩ := all_index h2
        obtain ⟨g1, g2, _⟩ := index_some h1
        refine ⟨by rw [List.map_cons, i1, g2], fun i hi => ?_, by simp [i3]⟩
        rcases List.mem_cons.mp hi with q | q
        · rw [q]
          exact g1
        · exact i2 i q
theorem lit_add {x : Text} {s : Schema} {n : Nat} {l : List Arg} (w : Nat) (h : LitOk x s (n, l)) : LitOk x (addLit w (n, l) s) (n, l) ∧ ∀ q, LitOk x s q → LitOk x (addLit w (n, l) s) q := by
  have e : (addLit w (n, l) s).places = s.places := by
    unfold addLit
    split
    · rfl
    · split
      · rfl
      · split <;> rfl
  have k : ∀ q, LitOk x s q → LitOk x (addLit w (n, l) s) q := fun q hq => by
    refine ⟨hq.fact, fun a ha => ?_, ?_⟩
    · have := hq.args a ha
      cases a with
      | place i =>
        show i < (addLit w (n, l) s).places.length
        rw [e]
        exact this
      | thing k => exact this
    · rw [← hq.kinds]
      refine List.map_congr_left fun a _ => ?_
      cases a with
      | place i =>
        show (((addLit w (n, l) s).places[i]?).map fun p => p.2).getD 0 = ((s.places[i]?).map fun p => p.2).getD 0
        rw [e]
      | thing k => rfl
  exact ⟨k _ h, k⟩
theorem act_add {x : Text} {s : Schema} {n : Nat} {l : List Arg} {w : Nat} (h : ActOk x s) (hl : LitOk x s (n, l)) (hw : (litsOf w s).length ≠ 6) : ActOk x (addLit w (n, l) s) := by
  obtain ⟨h1, h2⟩ := lit_add w hl
  by_cases w0 : w = 0
  · subst w0
    have e : addLit 0 (n, l) s = { s with needs := s.needs ++ [(n, l)] } := rfl
    rw [e] at h1 h2 ⊢
    have hw' : s.needs.length ≠ 6 := hw
    refine ⟨h.name, h.cost, h.few, h.places, h.apart, h.things, ⟨?_, fun q hq => ?_⟩, ⟨h.bars.1, fun q hq => h2 q (h.bars.2 q hq)⟩, ⟨h.brings.1, fun q hq => h2 q (h.brings.2 q hq)⟩, ⟨h.takes.1, fun q hq => h2 q (h.takes.2 q hq)⟩⟩
    · have := h.needs.1
      show (s.needs ++ [(n, l)]).length ≤ 6
      rw [List.length_append]
      simp
      omega
    · rcases mem_snoc hq with q' | q'
      · exact h2 q (h.needs.2 q q')
      · rw [q']
        exact h1
  by_cases w1 : w = 1
  · subst w1
    have e : addLit 1 (n, l) s = { s with bars := s.bars ++ [(n, l)] } := rfl
    rw [e] at h1 h2 ⊢
    have hw' : s.bars.length ≠ 6 := hw
    refine ⟨h.name, h.cost, h.few, h.places, h.apart, h.things, ⟨h.needs.1, fun q hq => h2 q (h.needs.2 q hq)⟩, ⟨?_, fun q hq => ?_⟩, ⟨h.brings.1, fun q hq => h2 q (h.brings.2 q hq)⟩, ⟨h.takes.1, fun q hq => h2 q (h.takes.2 q hq)⟩⟩
    · have := h.bars.1
      show (s.bars ++ [(n, l)]).length ≤ 6
      rw [List.length_append]
      simp
      omega
    · rcases mem_snoc hq with q' | q'
      · exact h2 q (h.bars.2 q q')
      · rw [q']
        exact h1
  by_cases w2 : w = 2
  · subst w2
    have e : addLit 2 (n, l) s = { s with brings := s.brings ++ [(n, l)] } := rfl
    rw [e] at h1 h2 ⊢
    have hw' : s.brings.length ≠ 6 := hw
    refine ⟨h.name, h.cost, h.few, h.places, h.apart, h.things, ⟨h.needs.1, fun q hq => h2 q (h.needs.2 q hq)⟩, ⟨h.bars.1, fun q hq => h2 q (h.bars.2 q hq)⟩, ⟨?_, fun q hq => ?_⟩, ⟨h.takes.1, fun q hq => h2 q (h.takes.2 q hq)⟩⟩
    · have := h.brings.1
      show (s.brings ++ [(n, l)]).length ≤ 6
      rw [List.length_append]
      simp
      omega
    · rcases mem_snoc hq with q' | q'
      · exact h2 q (h.brings.2 q q')
      · rw [q']
        exact h1
  · have e : addLit w (n, l) s = { s with takes := s.takes ++ [(n, l)] } := by
      unfold addLit
      rw [if_neg w0, if_neg w1, if_neg w2]
    have hw' : s.takes.length ≠ 6 := by
      unfold litsOf at hw
      rw [if_neg w0, if_neg w1, if_neg w2] at hw
      exact hw
    rw [e] at h1 h2 ⊢
    refine ⟨h.name, h.cost, h.few, h.places, h.apart, h.things, ⟨h.needs.1, fun q hq => h2 q (h.needs.2 q hq)⟩, ⟨h.bars.1, fun q hq => h2 q (h.bars.2 q hq)⟩, ⟨h.brings.1, fun q hq => h2 q (h.brings.2 q hq)⟩, ⟨?_, fun q hq => ?_⟩⟩
    · have := h.takes.1
      show (s.takes ++ [(n, l)]).length ≤ 6
      rw [List.length_append]
      simp
      omega
    · rcases mem_snoc hq with q' | q'
      · exact h2 q (h.takes.2 q q')
      · rw [q']
        exact h1
theorem addLit_name (w : Nat) (q : Lit) (s : Schema) : (addLit w q s).name = s.name := by
  unfold addLit
  split
  · rfl
  · split
    · rfl
    · split <;> rfl
theorem said_ok {x : Text} {p : Bytes} {a : List Bytes} {n : Nat} {k : List Nat} (h1 : indexOf (names x.facts) p = some n) (h2 : all? (indexOf (names x.things)) a = some k) (h3 : k.map (thingKind x) = kindsOf x n) : SaidOk x (n, k) :=
  ⟨by simpa [names] using (index_some h1).1, fun i hi => by simpa [names] using (all_index h2).2.1 i hi, h3⟩
theorem step_ok {x y : Text} {ws : List Bytes} (hx : TextOk x) (h : Step x ws y) : TextOk y := by
  cases h with
  | kind h1 h2 h3 => exact ok_kind hx h1 h2 h3
  | thing h1 h2 h3 h4 h5 => exact ok_thing hx h1 h2 h3 (index_some h4).1 h5
  | fact h1 h2 h3 h4 h5 =>
    obtain ⟨_, g2, g3⟩ := all_index h4
    exact ok_fact hx h1 h3 (by omega) g2 h5
  | @act n c l co ks h1 h2 h3 h4 h5 h6 h7 h8 h9 =>
    obtain ⟨g1, g2, g3⟩ := all_index h8
    have hlen : (names (pairsOf l)).length = ks.length := by
      rw [g3]
      simp [names]
    have hz : names ((names (pairsOf l)).zip ks) = names (pairsOf l) := names_zip hlen
    refine ok_acts hx ?_ ?_ ?_
    · have := hx.acts.1
      rw [List.length_append]
      simp
      omega
    · rw [List.map_append]
      exact nodup_snoc hx.acts.2.1 h5
    · intro s hs
      rcases mem_snoc hs with q | q
      · exact hx.acts.2.2 s q
      · subst q
        refine ⟨h1, cost_range h2, ?_, fun p hp => ?_, ?_, ?_, ⟨Nat.zero_le _, fun q hq => nomatch hq⟩, ⟨Nat.zero_le _, fun q hq => nomatch hq⟩, ⟨Nat.zero_le _, fun q hq => nomatch hq⟩, ⟨Nat.zero_le _, fun q hq => nomatch hq⟩⟩
        · show ((names (pairsOf l)).zip ks).length ≤ 2
          have := pairs_len h3
          rw [List.length_zip]
          have e : (names (pairsOf l)).length = (pairsOf l).length := by simp [names]
          omega
        · have hp' : p ∈ (names (pairsOf l)).zip ks := hp
          have m1 : p.1 ∈ names (pairsOf l) := (List.of_mem_zip hp').1
          have m2 : p.2 ∈ ks := (List.of_mem_zip hp').2
          obtain ⟨u, hu, e⟩ := List.mem_map.mp m1
          refine ⟨?_, g2 _ m2⟩
          rw [← e]
          exact h4 _ (pairs_mem hu).1
        · show (names ((names (pairsOf l)).zip ks)).Nodup
          rw [hz]
          exact h6
        · intro p hp
          have hp' : p ∈ names ((names (pairsOf l)).zip ks) := hp
          rw [hz] at hp'
          exact h7 p hp'
  | @lit f p a s pre n l h1 h2 h3 h4 h5 h6 h7 =>
    have hs : ActOk x s := hx.acts.2.2 s (by rw [h2]; simp)
    have hlit : LitOk x s (n, l) := ⟨by simpa [names] using (index_some h4).1, fun a ha => by
      obtain ⟨w, hw, e⟩ := all_mem h5 ha
      exact (arg_ok e).1, h6⟩
    refine ok_acts hx ?_ ?_ ?_
    · have := hx.acts.1
      rw [h2] at this
      simpa using this
    · have := hx.acts.2.1
      rw [h2, List.map_append] at this
      rw [List.map_append]
      show (pre.map (fun s => s.name) ++ [(addLit (which f) (n, l) s).name]).Nodup
      rw [addLit_name]
      exact this
    · intro u hu
      rcases mem_snoc hu with q | q
      · exact hx.acts.2.2 u (by rw [h2]; exact List.mem_append_left _ q)
      · subst q
        exact act_add hs hlit h7
  | now h1 h2 h3 h4 h5 =>
    refine ok_now hx ?_ fun f hf => ?_
    · have := hx.now.1
      rw [List.length_append]
      simp
      omega
    · rcases mem_snoc hf with q | q
      · exact hx.now.2 f q
      · rw [q]
        exact said_ok h2 h3 h4
  | want h1 h2 h3 h4 h5 =>
    refine ok_want hx ?_ fun f hf => ?_
    · have := hx.want.1
      rw [List.length_append]
      simp
      omega
    · rcases mem_snoc hf with q | q
      · exact hx.want.2 f q
      · rw [q]
        exact said_ok h2 h3 h4
/-! ### words with other signs told by ? -/
def sign (b : Nat) : Nat := if b = 32 then 32 else if 97 ≤ b ∧ b ≤ 122 then b else if 48 ≤ b ∧ b ≤ 57 then b else 63
def clean (w : Bytes) : Bytes := w.map sign
theorem sign_letter (b : Nat) : isLetter (sign b) = isLetter b := by
  unfold isLetter sign
  rw [← Bool.decide_and, ← Bool.decide_and, decide_eq_decide]
  split
  · omega
  · split
    · omega
    · split <;> omega
theorem sign_digit (b : Nat) : isDigit (sign b) = isDigit b := by
  unfold isDigit sign
  rw [← Bool.decide_and, ← Bool.decide_and, decide_eq_decide]
  split
  · omega
  · split
    · omega
    · split <;> omega
theorem sign_id {b : Nat} (h : (isLetter b || isDigit b) = true) : sign b = b := by
  unfold isLetter isDigit at h
  rw [Bool.or_eq_true, Bool.and_eq_true, Bool.and_eq_true, decide_eq_true_iff, decide_eq_true_iff, decide_eq_true_iff, decide_eq_true_iff] at h
  unfold sign
  split
  · omega
  · split
    · rfl
    · split
      · rfl
      · omega
theorem clean_name (w : Bytes) : isName (clean w) = isName w := by
  cases w with
  | nil => rfl
  | cons b r =>
    show (isLetter (sign b) && (decide ((r.map sign).length ≤ 7) && (r.map sign).all fun c => isLetter c || isDigit c)) = _
    rw [sign_letter, List.length_map, List.all_map]
    show _ = (isLetter b && (decide (r.length ≤ 7) && r.all fun c => isLetter c || isDigit c))
    congr 2
    refine congrArg (fun p => r.all p) (funext fun c => ?_)
    show (isLetter (sign c) || isDigit (sign c)) = _
    rw [sign_letter, sign_digit]
theorem clean_cost (w : Bytes) : (cost? (clean w)).isSome = (cost? w).isSome := by
  have key : (clean w ≠ [] ∧ (clean w).length ≤ 3 ∧ (clean w).all isDigit = true ∧ (clean w).headD 48 ≠ 48) ↔ (w ≠ [] ∧ w.length ≤ 3 ∧ w.all isDigit = true ∧ w.headD 48 ≠ 48) := by
    have e3 : (clean w).all isDigit = w.all isDigit := by
      unfold clean
      rw [List.all_map]
      exact congrArg (fun p => w.all p) (funext fun c => sign_digit c)
    have e2 : (clean w).length = w.length := List.length_map _
    rw [e2, e3]
    cases w with
    | nil => exact Iff.rfl
    | cons b r =>
      constructor
      · rintro ⟨_, h2, h3, h4⟩
        refine ⟨by simp, h2, h3, ?_⟩
        have hb : isDigit b = true := List.all_eq_true.mp h3 b (List.mem_cons_self ..)
        have h5 : sign b ≠ 48 := h4
        rw [sign_id (by rw [hb, Bool.or_true])] at h5
        exact h5
      · rintro ⟨_, h2, h3, h4⟩
        refine ⟨by simp [clean], h2, h3, ?_⟩
        have hb : isDigit b = true := List.all_eq_true.mp h3 b (List.mem_cons_self ..)
        show sign b ≠ 48
        rw [sign_id (by rw [hb, Bool.or_true])]
        exact h4
  unfold cost?
  by_cases h : w ≠ [] ∧ w.length ≤ 3 ∧ w.all isDigit = true ∧ w.headD 48 ≠ 48
  · rw [if_pos h, if_pos (key.mpr h)] <;> rfl
  · rw [if_neg h, if_neg (fun z => h (key.mp z))]
theorem name_clean {w : Bytes} (h : isName w = true) : clean w = w := by
  cases w with
  | nil => rfl
  | cons b r =>
    have h' : (isLetter b && (decide (r.length ≤ 7) && r.all fun c => isLetter c || isDigit c)) = true := h
    rw [Bool.and_eq_true, Bool.and_eq_true] at h'
    show sign b :: r.map sign = b :: r
    rw [sign_id (by rw [h'.1]; rfl)]
    congr 1
    have : r.map sign = r.map id := List.map_congr_left fun c hc => sign_id (List.all_eq_true.mp h'.2.2 c hc)
    rw [this, List.map_id]
theorem cost_clean {w : Bytes} (h : (cost? w).isSome = true) : clean w = w := by
  unfold cost? at h
  split at h
  · rename_i q
    have : w.map sign = w.map id := List.map_congr_left fun c hc => sign_id (by
      have := List.all_eq_true.mp q.2.2.1 c hc
      rw [this, Bool.or_true])
    show w.map sign = w
    rw [this, List.map_id]
  · cases h
theorem clean_key {k : Bytes} (hk : k.all isLetter = true) (f : Bytes) : clean f = k ↔ f = k := by
  constructor
  · intro e
    subst e
    have : f.map id = f.map sign := List.map_congr_left fun b hb => by
      have h1 : isLetter (sign b) = true := List.all_eq_true.mp hk _ (List.mem_map_of_mem hb)
      rw [sign_letter] at h1
      exact (sign_id (b := b) (by rw [h1]; rfl)).symm
    rw [List.map_id] at this
    exact this
  · intro e
    subst e
    have : f.map sign = f.map id := List.map_congr_left fun b hb => sign_id (by
      have := List.all_eq_true.mp hk b hb
      rw [this]
      rfl)
    show f.map sign = f
    rw [this, List.map_id]
theorem clean_counts (f : Bytes) : countsOf (clean f) = countsOf f ∧ rolesOf (clean f) = rolesOf f := by
  have e1 := clean_key (k := kKind) (by decide) f
  have e2 := clean_key (k := kThing) (by decide) f
  have e3 := clean_key (k := kFact) (by decide) f
  have e4 := clean_key (k := kAct) (by decide) f
  have e5 := clean_key (k := kNeeds) (by decide) f
  have e6 := clean_key (k := kBars) (by decide) f
  have e7 := clean_key (k := kBrings) (by decide) f
  have e8 := clean_key (k := kTakes) (by decide) f
  have e9 := clean_key (k := kNow) (by decide) f
  have e10 := clean_key (k := kWant) (by decide) f
  unfold countsOf rolesOf
  simp only [e1, e2, e3, e4, e5, e6, e7, e8, e9, e10, and_self]
theorem clean_noLine (ws : List Bytes) : noLine (ws.map clean) = noLine ws := by
  unfold noLine
  cases ws with
  | nil => rfl
  | cons f r =>
    show (match countsOf (clean f) with | none => true | some c => !c.contains ((f :: r).map clean).length) = _
    rw [(clean_counts f).1, List.length_map] <;> rfl
theorem clean_wrong (ws : List Bytes) : wrongWord (ws.map clean) = wrongWord ws := by
  unfold wrongWord
  cases ws with
  | nil => rfl
  | cons f r =>
    show ((rolesOf (clean f)).zip (r.map clean)).any _ = ((rolesOf f).zip r).any _
    rw [(clean_counts f).2, List.zip_map_right, List.any_map]
    refine congrArg (fun p => ((rolesOf f).zip r).any p) (funext fun p => ?_)
    show wrongWord1 p.1 (clean p.2) = wrongWord1 p.1 p.2
    unfold wrongWord1
    rw [clean_cost, clean_name]
theorem zip_any {α : Type} {p : α × Bytes → Bool} : ∀ {as : List α} {ws : List Bytes}, ws.length ≤ as.length → (as.zip ws).any p = false → ∀ w ∈ ws, ∃ a ∈ as, p (a, w) = false
  | _, [], _, _, w, h => nomatch h
  | [], _ :: _, hl, _, _, _ => by simp at hl
  | a :: as, v :: ws, hl, h, w, hw => by
    rw [List.zip_cons_cons, List.any_cons, Bool.or_eq_false_iff] at h
    rcases List.mem_cons.mp hw with e | hw
    · exact ⟨a, List.mem_cons_self .., by rw [e]; exact h.1⟩
    · obtain ⟨b, hb, e⟩ := zip_any (as := as) (ws := ws) (by simpa using hl) h.2 w hw
      exact ⟨b, List.mem_cons_of_mem _ hb, e⟩
theorem counts_roles {f : Bytes} {c : List Nat} {n : Nat} (h : countsOf f = some c) (hn : c.contains (n + 1) = true) : n ≤ (rolesOf f).length ∧ clean f = f := by
  have cl : ∀ k : Bytes, k.all isLetter = true → f = k → clean f = f := fun k hk e => by
    rw [(clean_key hk f).mpr e, e]
  have hm : n + 1 ∈ c := List.contains_iff_mem.mp hn
  by_cases h1 : f = kKind
  · refine ⟨?_, cl _ (by decide) h1⟩
    subst h1
    rw [show countsOf kKind = some [2] by decide] at h
    cases h
    show n ≤ 1
    simp at hm
    omega
  by_cases h2 : f = kThing
  · refine ⟨?_, cl _ (by decide) h2⟩
    subst h2
    rw [show countsOf kThing = some [3] by decide] at h
    cases h
    show n ≤ 2
    simp at hm
    omega
  by_cases h3 : f = kFact
  · refine ⟨?_, cl _ (by decide) h3⟩
    subst h3
    rw [show countsOf kFact = some [2, 3, 4] by decide] at h
    cases h
    show n ≤ 3
    simp at hm
    omega
  by_cases h4 : f = kAct
  · refine ⟨?_, cl _ (by decide) h4⟩
    subst h4
    rw [show countsOf kAct = some [3, 5, 7] by decide] at h
    cases h
    show n ≤ 6
    simp at hm
    omega
  have fin : ∀ k : Bytes, k.all isLetter = true → countsOf k = some [2, 3, 4] → (rolesOf k).length = 3 → f = k → n ≤ (rolesOf f).length ∧ clean f = f := fun k hk hc hr e => by
    refine ⟨?_, cl _ hk e⟩
    rw [e] at h ⊢
    rw [hc] at h
    cases h
    rw [hr]
    simp at hm
    omega
  by_cases h5 : f = kNeeds
  · exact fin _ (by decide) (by decide) (by decide) h5
  by_cases h6 : f = kBars
  · exact fin _ (by decide) (by decide) (by decide) h6
  by_cases h7 : f = kBrings
  · exact fin _ (by decide) (by decide) (by decide) h7
  by_cases h8 : f = kTakes
  · exact fin _ (by decide) (by decide) (by decide) h8
  by_cases h9 : f = kNow
  · exact fin _ (by decide) (by decide) (by decide) h9
  by_cases h10 : f = kWant
  · exact fin _ (by decide) (by decide) (by decide) h10
  unfold countsOf at h
  rw [if_neg h1, if_neg h2, if_neg h3, if_neg h4, if_neg] at h
  · cases h
  · rintro (q | q | q | q | q | q)
    · exact h5 q
    · exact h6 q
    · exact h7 q
    · exact h8 q
    · exact h9 q
    · exact h10 q
theorem clean_all {f : Bytes} {r : List Bytes} (h1 : noLine (f :: r) = false) (h2 : wrongWord (f :: r) = false) : (f :: r).map clean = f :: r := by
  have h1' : (match countsOf f with | none => true | some c => !c.contains (r.length + 1)) = false := h1
  cases hc : countsOf f with
  | none =>
    rw [hc] at h1'
    cases h1'
  | some c =>
    rw [hc] at h1'
    have hn : c.contains (r.length + 1) = true := by simpa using h1'
    obtain ⟨g1, g2⟩ := counts_roles hc hn
    rw [List.map_cons, g2]
    congr 1
    have : r.map clean = r.map id := List.map_congr_left fun w hw => by
      obtain ⟨role, _, e⟩ := zip_any (p := fun p => wrongWord1 p.1 p.2) g1 h2 w hw
      have e' : wrongWord1 role w = false := e
      unfold wrongWord1 at e'
      split at e'
      · exact cost_clean (by simpa using e')
      · exact name_clean (by simpa using e')
    rw [this, List.map_id]
/-- **a line's words as the program has them** -/
theorem agrees_clean {x : Text} (hx : TextOk x) (ws : List Bytes) (hne : ws ≠ []) : match readLine x ws with
    | .error e => lowest x (ws.map clean) = e ∧ e ≠ 0
    | .ok y => lowest x (ws.map clean) = 0 ∧ ws.map clean = ws ∧ Step x ws y := by
  obtain ⟨f, r, rfl⟩ : ∃ f r, ws = f :: r := by
    cases ws with
    | nil => exact absurd rfl hne
    | cons f r => exact ⟨f, r, rfl⟩
  have A := agrees hx f r
  by_cases h1 : noLine (f :: r) = true
  · have e1 : lowest x (f :: r) = 2 := low2 h1
    have e2 : lowest x ((f :: r).map clean) = 2 := low2 (by rw [clean_noLine]; exact h1)
    cases h : readLine x (f :: r) with
    | error e =>
      rw [h] at A
      show lowest x ((f :: r).map clean) = e ∧ e ≠ 0
      rw [e2, ← e1]
      exact A
    | ok y =>
      rw [h] at A
      have := A.1
      rw [e1] at this
      cases this
  · have h1' : noLine (f :: r) = false := by simpa using h1
    by_cases h2 : wrongWord (f :: r) = true
    · have e1 : lowest x (f :: r) = 3 := by
        unfold lowest
        rw [h1', h2] <;> rfl
      have e2 : lowest x ((f :: r).map clean) = 3 := by
        unfold lowest
        rw [clean_noLine, clean_wrong, h1', h2] <;> rfl
      cases h : readLine x (f :: r) with
      | error e =>
        rw [h] at A
        show lowest x ((f :: r).map clean) = e ∧ e ≠ 0
        rw [e2, ← e1]
        exact A
      | ok y =>
        rw [h] at A
        have := A.1
        rw [e1] at this
        cases this
    · have h2' : wrongWord (f :: r) = false := by simpa using h2
      have hc := clean_all h1' h2'
      rw [hc]
      cases h : readLine x (f :: r) with
      | error e =>
        rw [h] at A
        exact A
      | ok y =>
        rw [h] at A
        exact ⟨A.1, rfl, A.2⟩
end KP
set_option Elab.async false
set_option linter.all false
/-! The calls as one list: what they are, and what is answered. -/
namespace KP
open Pn16
/-- a row with its length ahead -/
def encRow (r : List Int) : List Int := (r.length : Int) :: r
def encRaw : List (List Int) → List Int
  | [] => []
  | h :: rows => h ++ rows.flatMap encRow
theorem row_eq {l x s : List Int} (h : PyFlat.row l = some (x, s)) : l = encRow x ++ s := by
  cases l with
  | nil => cases h
  | cons n r =>
    change (if 0 ≤ n ∧ n.toNat ≤ r.length then some (r.take n.toNat, r.drop n.toNat) else none) = some (x, s) at h
    split at h
    · rename_i hn
      have e := Option.some.inj h
      have e1 : r.take n.toNat = x := congrArg Prod.fst e
      have e2 : r.drop n.toNat = s := congrArg Prod.snd e
      have hl : (x.length : Int) = n := by
        rw [← e1, List.length_take]
        omega
      unfold encRow
      rw [hl, ← e1, ← e2, List.cons_append, List.take_append_drop]
    · cases h
theorem rows_eq : ∀ {k : Nat} {l : List Int} {xs : List (List Int)} {t : List Int}, PyFlat.rows k l = some (xs, t) → l = xs.flatMap encRow ++ t ∧ xs.length = k
  | 0, l, xs, t, h => by
    have e := Option.some.inj h
    have e1 : [] = xs := congrArg Prod.fst e
    have e2 : l = t := congrArg Prod.snd e
    subst e1
    exact ⟨e2, rfl⟩
  | k + 1, l, xs, t, h => by
    unfold PyFlat.rows at h
    split at h
    · cases h
    · rename_i x s hr
      split at h
      · cases h
      · rename_i ys u hs
        have e := Option.some.inj h
        have e1 : x :: ys = xs := congrArg Prod.fst e
        have e2 : u = t := congrArg Prod.snd e
        obtain ⟨i1, i2⟩ := rows_eq hs
        subst e1 e2
        refine ⟨?_, by simp [i2]⟩
        rw [row_eq hr, i1, List.flatMap_cons, List.append_assoc]
theorem call_eq {shape : Int → Option (Nat × Nat)} {l : List Int} {c : List (List Int)} {t : List Int} (h : PyFlat.call shape l = some (c, t)) : ∃ p a xs, c = (p :: a) :: xs ∧ l = encRaw c ++ t ∧ shape p = some (a.length, xs.length) := by
  cases l with
  | nil => cases h
  | cons p r =>
    change (match shape p with
      | none => none
      | some (n, k) => if r.length < n then none else match PyFlat.rows k (r.drop n) with
        | none => none
        | some (xs, t) => some ((p :: r.take n) :: xs, t)) = some (c, t) at h
    split at h
    · cases h
    · rename_i n k hs
      split at h
      · cases h
      · rename_i hn
        split at h
        · cases h
        · rename_i xs u hr
          have e := Option.some.inj h
          have e1 : (p :: r.take n) :: xs = c := congrArg Prod.fst e
          have e2 : u = t := congrArg Prod.snd e
          obtain ⟨i1, i2⟩ := rows_eq hr
          subst e1 e2
          refine ⟨p, r.take n, xs, rfl, ?_, ?_⟩
          · show p :: r = ((p :: r.take n) ++ xs.flatMap encRow) ++ u
            rw [List.append_assoc, ← i1, List.cons_append, List.take_append_drop]
          · rw [hs, i2, List.length_take, Nat.min_eq_left (by omega)]
/-- one call as it is written -/
inductive IsRaw : List (List Int) → Prop
  | read (t : List Int) : IsRaw [[0], t]
  | print : IsRaw [[1]]
  | facts : IsRaw [[2]]
  | acts : IsRaw [[3]]
  | task : IsRaw [[4]]
  | act (k : Int) : IsRaw [[5, k]]
  | plan : IsRaw [[6]]
  | fact (k : Int) : IsRaw [[7, k]]
  | after (t : List Int) : IsRaw [[8], t]
theorem nil_of {α : Type} {l : List α} (h : 0 = l.length) : l = [] := List.length_eq_zero_iff.mp h.symm
theorem one_of {α : Type} {l : List α} (h : 1 = l.length) : ∃ a, l = [a] := List.length_eq_one_iff.mp h.symm
theorem raw_of {p : Int} {a : List Int} {xs : List (List Int)} (h : PyPn16.shape p = some (a.length, xs.length)) : IsRaw ((p :: a) :: xs) := by
  have un : ∀ {i j : Nat}, some (i, j) = some (a.length, xs.length) → i = a.length ∧ j = xs.length := fun z => ⟨congrArg Prod.fst (Option.some.inj z), congrArg Prod.snd (Option.some.inj z)⟩
  unfold PyPn16.shape at h
  split at h
  · rename_i hp
    subst hp
    obtain ⟨h1, h2⟩ := un h
    rw [nil_of h1]
    obtain ⟨r, rfl⟩ := one_of h2
    exact .read r
  split at h
  · rename_i hp
    subst hp
    obtain ⟨h1, h2⟩ := un h
    rw [nil_of h1, nil_of h2]
    exact .print
  split at h
  · rename_i hp
    subst hp
    obtain ⟨h1, h2⟩ := un h
    rw [nil_of h1, nil_of h2]
    exact .facts
  split at h
  · rename_i hp
    subst hp
    obtain ⟨h1, h2⟩ := un h
    rw [nil_of h1, nil_of h2]
    exact .acts
  split at h
  · rename_i hp
    subst hp
    obtain ⟨h1, h2⟩ := un h
    rw [nil_of h1, nil_of h2]
    exact .task
  split at h
  · rename_i hp
    subst hp
    obtain ⟨h1, h2⟩ := un h
    rw [nil_of h2]
    obtain ⟨r, rfl⟩ := one_of h1
    exact .act r
  split at h
  · rename_i hp
    subst hp
    obtain ⟨h1, h2⟩ := un h
    rw [nil_of h1, nil_of h2]
    exact .plan
  split at h
  · rename_i hp
    subst hp
    obtain ⟨h1, h2⟩ := un h
    rw [nil_of h2]
    obtain ⟨r, rfl⟩ := one_of h1
    exact .fact r
  split at h
  · rename_i hp
    subst hp
    obtain ⟨h1, h2⟩ := un h
    rw [nil_of h1]
    obtain ⟨r, rfl⟩ := one_of h2
    exact .after r
  · cases h
theorem calls_eq : ∀ {f : Nat} {l : List Int} {raw : List (List (List Int))}, PyFlat.calls PyPn16.shape f l = some raw → l = raw.flatMap encRaw ∧ ∀ c ∈ raw, IsRaw c
  | f, [], raw, h => by
    have e : [] = raw := Option.some.inj (by
      unfold PyFlat.calls at h
      exact h)
    subst e
    exact ⟨rfl, by simp⟩
  | 0, p :: r, raw, h => by
    unfold PyFlat.calls at h
    cases h
  | f + 1, p :: r, raw, h => by
    unfold PyFlat.calls at h
    split at h
    · cases h
    · rename_i c t hc
      split at h
      · cases h
      · rename_i cs hs
        have e := Option.some.inj h
        subst e
        obtain ⟨i1, i2⟩ := calls_eq hs
        obtain ⟨p', a, xs, ec, el, es⟩ := call_eq hc
        refine ⟨?_, fun d hd => ?_⟩
        · rw [el, i1, List.flatMap_cons]
        · rcases List.mem_cons.mp hd with e | hd
          · rw [e, ec]
            exact raw_of es
          · exact i2 d hd
/-! ### the document's calls -/
def intsOf (l : List Nat) : List Int := l.map fun n : Nat => (n : Int)
def enc : Call → List Int
  | .read t => 0 :: (t.length : Int) :: intsOf t
  | .print => [1]
  | .facts => [2]
  | .acts => [3]
  | .task => [4]
  | .act k => [5, (k : Int)]
  | .plan => [6]
  | .fact k => [7, (k : Int)]
  | .after t => 8 :: (t.length : Int) :: intsOf t
def CallOk : Call → Prop
  | .read t => t.length ≤ 1500 ∧ ∀ b ∈ t, b ≤ 255
  | .act k => k ≤ 4294967295
  | .fact k => k ≤ 4294967295
  | .after t => t.length ≤ 20 ∧ ∀ b ∈ t, b ≤ 4294967295
  | _ => True
def run : House → List Call → List (List Int)
  | _, [] => []
  | h, c :: r => Pn16Neutral.out (Pn16.step h c).2 :: run (Pn16.step h c).1 r
theorem ints_nats : ∀ {t : List Int}, (∀ z ∈ t, 0 ≤ z) → intsOf (Pn16Neutral.nats t) = t
  | [], _ => rfl
  | z :: t, h => by
    have h1 := h z (List.mem_cons_self ..)
    have ih := ints_nats fun y hy => h y (List.mem_cons_of_mem _ hy)
    unfold intsOf Pn16Neutral.nats at ih ⊢
    rw [List.map_cons, List.map_cons, ih, Int.toNat_of_nonneg h1]
theorem all_within {lo hi : Int} {t : List Int} (h : t.all (PyInside.within lo hi) = true) : ∀ z ∈ t, lo ≤ z ∧ z ≤ hi := fun z hz => by
  have := List.all_eq_true.mp h z hz
  unfold PyInside.within at this
  simpa using this
theorem nats_le {t : List Int} {hi : Nat} (h : ∀ z ∈ t, 0 ≤ z ∧ z ≤ (hi : Int)) : ∀ b ∈ Pn16Neutral.nats t, b ≤ hi := fun b hb => by
  unfold Pn16Neutral.nats at hb
  obtain ⟨z, hz, rfl⟩ := List.mem_map.mp hb
  have := h z hz
  omega
theorem call_of {c : List (List Int)} (hr : IsRaw c) (hi : PyInside.call PyPn16.bound c = true) : ∃ x, Pn16Neutral.callOf c = some x ∧ encRaw c = enc x ∧ CallOk x := by
  cases hr with
  | print => exact ⟨.print, rfl, rfl, trivial⟩
  | facts => exact ⟨.facts, rfl, rfl, trivial⟩
  | acts => exact ⟨.acts, rfl, rfl, trivial⟩
  | task => exact ⟨.task, rfl, rfl, trivial⟩
  | plan => exact ⟨.plan, rfl, rfl, trivial⟩
  | read t =>
    have h : ((decide (0 ≤ t.length) && decide (t.length ≤ 1500) && t.all (PyInside.within 0 255)) && true) = true := by
      have : (true && ((decide (0 ≤ t.length) && decide (t.length ≤ 1500) && t.all (PyInside.within 0 255)) && true)) = true := hi
      rw [Bool.true_and] at this
      exact this
    rw [Bool.and_true, Bool.and_eq_true, Bool.and_eq_true, decide_eq_true_eq, decide_eq_true_eq] at h
    have hw := all_within h.2
    refine ⟨.read (Pn16Neutral.nats t), rfl, ?_, ?_, nats_le (hi := 255) hw⟩
    · have e := ints_nats (t := t) fun z hz => (hw z hz).1
      show 0 :: (encRow t ++ []) = 0 :: ((Pn16Neutral.nats t).length : Int) :: intsOf (Pn16Neutral.nats t)
      rw [e, List.append_nil]
      unfold encRow Pn16Neutral.nats
      rw [List.length_map]
    · unfold Pn16Neutral.nats
      rw [List.length_map]
      exact h.1.2
  | after t =>
    have h : ((decide (0 ≤ t.length) && decide (t.length ≤ 20) && t.all (PyInside.within 0 4294967295)) && true) = true := by
      have : (true && ((decide (0 ≤ t.length) && decide (t.length ≤ 20) && t.all (PyInside.within 0 4294967295)) && true)) = true := hi
      rw [Bool.true_and] at this
      exact this
    rw [Bool.and_true, Bool.and_eq_true, Bool.and_eq_true, decide_eq_true_eq, decide_eq_true_eq] at h
    have hw := all_within h.2
    refine ⟨.after (Pn16Neutral.nats t), rfl, ?_, ?_, nats_le (hi := 4294967295) hw⟩
    · have e := ints_nats (t := t) fun z hz => (hw z hz).1
      show 8 :: (encRow t ++ []) = 8 :: ((Pn16Neutral.nats t).length : Int) :: intsOf (Pn16Neutral.nats t)
      rw [e, List.append_nil]
      unfold encRow Pn16Neutral.nats
      rw [List.length_map]
    · unfold Pn16Neutral.nats
      rw [List.length_map]
      exact h.1.2
  | act k =>
    have h : ((PyInside.within 0 4294967295 k && true) && true) = true := hi
    rw [Bool.and_true, Bool.and_true] at h
    unfold PyInside.within at h
    simp at h
    refine ⟨.act k.toNat, rfl, ?_, ?_⟩
    · show [5, k] = [5, ((k.toNat : Nat) : Int)]
      rw [Int.toNat_of_nonneg h.1]
    · show k.toNat ≤ 4294967295
      omega
  | fact k =>
    have h : ((PyInside.within 0 4294967295 k && true) && true) = true := hi
    rw [Bool.and_true, Bool.and_true] at h
    unfold PyInside.within at h
    simp at h
    refine ⟨.fact k.toNat, rfl, ?_, ?_⟩
    · show [7, k] = [7, ((k.toNat : Nat) : Int)]
      rw [Int.toNat_of_nonneg h.1]
    · show k.toNat ≤ 4294967295
      omega
theorem whole_id (c : List (List Int)) : PyPn16.whole c = c := by
  unfold PyPn16.whole
  split <;> rfl
theorem played_run : ∀ {raw : List (List (List Int))}, (∀ c ∈ raw, IsRaw c ∧ PyInside.call PyPn16.bound c = true) → ∃ cs : List Call, raw.flatMap encRaw = cs.flatMap enc ∧ (∀ x ∈ cs, CallOk x) ∧ cs.length = raw.length ∧ ∀ s, PyFlat.played Pn16Neutral.step s raw = run s cs
  | [], _ => ⟨[], rfl, by simp, rfl, fun _ => rfl⟩
  | c :: raw, h => by
    obtain ⟨cs, i1, i2, i3, i4⟩ := played_run (raw := raw) fun d hd => h d (List.mem_cons_of_mem _ hd)
    obtain ⟨hr, hi⟩ := h c (List.mem_cons_self ..)
    obtain ⟨x, e1, e2, e3⟩ := call_of hr hi
    refine ⟨x :: cs, by rw [List.flatMap_cons, List.flatMap_cons, e2, i1], fun y hy => ?_, by simp [i3], fun s => ?_⟩
    · rcases List.mem_cons.mp hy with e | hy
      · rw [e]
        exact e3
      · exact i2 y hy
    · show (Pn16Neutral.step s c).2 :: PyFlat.played Pn16Neutral.step (Pn16Neutral.step s c).1 raw = Pn16Neutral.out (Pn16.step s x).2 :: run (Pn16.step s x).1 cs
      have e : Pn16Neutral.step s c = ((Pn16.step s x).1, Pn16Neutral.out (Pn16.step s x).2) := by
        unfold Pn16Neutral.step
        rw [e1]
      rw [e, i4]
/-- **what is asked, and what is due** -/
theorem asked_is {l : List Int} (h : PyPn16.answers_asked l = true) : ∃ cs : List Call, l = cs.flatMap enc ∧ (∀ x ∈ cs, CallOk x) ∧ cs.length ≤ 60 ∧ PyPn16.answers l = PyFlat.told (run init cs) ∧ (PyFlat.told (run init cs)).length ≤ 10000000 := by
  unfold PyPn16.answers_asked at h
  split at h
  · cases h
  · rename_i raw hraw
    simp only [Bool.and_eq_true] at h
    obtain ⟨⟨⟨⟨h1, h2⟩, h3⟩, h4⟩, h5⟩ := h
    obtain ⟨e1, e2⟩ := calls_eq hraw
    have hin : ∀ c ∈ raw, IsRaw c ∧ PyInside.call PyPn16.bound c = true := fun c hc => ⟨e2 c hc, List.all_eq_true.mp h3 c hc⟩
    obtain ⟨cs, i1, i2, i3, i4⟩ := played_run hin
    have ea : PyPn16.answers l = PyFlat.told (run init cs) := by
      unfold PyPn16.answers PyPn16.calls
      rw [hraw]
      show PyFlat.told (PyFlat.played Pn16Neutral.step Pn16Neutral.start (raw.map PyPn16.whole)) = _
      have : raw.map PyPn16.whole = raw := by
        rw [List.map_congr_left fun c _ => whole_id c]
        exact List.map_id _
      rw [this, i4]
      rfl
    refine ⟨cs, e1.trans i1, i2, ?_, ea, ?_⟩
    · rw [i3]
      exact of_decide_eq_true h2
    · rw [← ea]
      exact of_decide_eq_true h5
end KP
set_option Elab.async false
set_option linter.all false
/-! The cheapest rest by settling the cheapest waiting state: what the loop keeps, what it comes to. -/
namespace KP
open Pn
/-- R: settled, W: waiting -/
structure Dij (t : Task) (R W : Nat → Option Nat) : Prop where
  rb : ∀ s c, R s = some c → s < 2 ^ t.facts ∧ (∃ l, t.plan s l = true ∧ t.price l = c) ∧ ∀ l, t.plan s l = true → c ≤ t.price l
  wb : ∀ s c, W s = some c → R s = none ∧ s < 2 ^ t.facts ∧ ∃ l, t.plan s l = true ∧ t.price l = c
  dn : ∀ s, s < 2 ^ t.facts → t.done s = true → R s ≠ none ∨ W s = some 0
  ed : ∀ s k c, s < 2 ^ t.facts → R s = none → t.can s k = true → R ((t.act k).then_ s) = some c → ∃ c', W s = some c' ∧ c' ≤ (t.act k).cost + c
theorem Dij.reach {t : Task} (g : Good t) {R W : Nat → Option Nat} (D : Dij t R W) : ∀ (l : List Nat) (s : Nat), s < 2 ^ t.facts → R s = none → t.plan s l = true → ∃ w c, W w = some c ∧ c ≤ t.price l
  | [], s, hs, hr, hp => by
    rcases D.dn s hs hp with h | h
    · exact absurd hr h
    · exact ⟨s, 0, h, Nat.zero_le _⟩
  | k :: l, s, hs, hr, hp => by
    obtain ⟨hc, hp2⟩ := plan_cons_iff.mp hp
    have hu := then_lt hs (g _ (act_mem (can_iff.mp hc).1)).1
    rw [price_cons]
    cases e : R ((t.act k).then_ s) with
    | none =>
      obtain ⟨w, c, h1, h2⟩ := D.reach g l _ hu e hp2
      exact ⟨w, c, h1, by omega⟩
    | some c =>
      obtain ⟨c', h1, h2⟩ := D.ed s k c hs hr hc e
      have h3 := (D.rb _ _ e).2.2 l hp2
      exact ⟨s, c', h1, by omega⟩
/-- the start: all that is wanted is so, at no cost -/
def ends (t : Task) (s : Nat) : Option Nat := if s < 2 ^ t.facts ∧ t.done s = true then some 0 else none
theorem dij_start (t : Task) : Dij t (fun _ => none) (ends t) := by
  refine ⟨fun s c h => (nomatch h), fun s c h => ?_, fun s hs hd => .inr (if_pos ⟨hs, hd⟩), fun s k c _ _ _ h => (nomatch h)⟩
  unfold ends at h
  split at h
  · rename_i q
    have e := Option.some.inj h
    refine ⟨rfl, q.1, [], q.2, ?_⟩
    rw [price_nil, e]
  · cases h
def set1 (f : Nat → Option Nat) (u : Nat) (v : Option Nat) : Nat → Option Nat := fun s => if s = u then v else f s
theorem set1_same {f : Nat → Option Nat} {u : Nat} {v : Option Nat} : set1 f u v u = v := if_pos rfl
theorem set1_ne {f : Nat → Option Nat} {u s : Nat} {v : Option Nat} (h : s ≠ u) : set1 f u v s = f s := if_neg h
/-- while the ways into u are gone through: E of them are done -/
structure Mid (t : Task) (R W : Nat → Option Nat) (u : Nat) (E : List (Nat × Nat)) : Prop where
  rb : ∀ s c, R s = some c → s < 2 ^ t.facts ∧ (∃ l, t.plan s l = true ∧ t.price l = c) ∧ ∀ l, t.plan s l = true → c ≤ t.price l
  wb : ∀ s c, W s = some c → R s = none ∧ s < 2 ^ t.facts ∧ ∃ l, t.plan s l = true ∧ t.price l = c
  dn : ∀ s, s < 2 ^ t.facts → t.done s = true → R s ≠ none ∨ W s = some 0
  ed : ∀ s k c, s < 2 ^ t.facts → R s = none → t.can s k = true → R ((t.act k).then_ s) = some c → ((t.act k).then_ s ≠ u ∨ (s, (t.act k).cost) ∈ E) → ∃ c', W s = some c' ∧ c' ≤ (t.act k).cost + c
theorem Dij.pop {t : Task} (g : Good t) {R W : Nat → Option Nat} (D : Dij t R W) {u c : Nat} (hu : W u = some c) (hm : ∀ w c', W w = some c' → c ≤ c') : Mid t (set1 R u (some c)) (set1 W u none) u [] := by
  obtain ⟨ru, ul, lu, pu, cu⟩ := D.wb u c hu
  refine ⟨fun s c' h => ?_, fun s c' h => ?_, fun s hs hd => ?_, fun s k c' hs hr hc ht hE => ?_⟩
  · by_cases e : s = u
    · subst e
      rw [set1_same] at h
      have e2 := Option.some.inj h
      subst e2
      refine ⟨ul, ⟨lu, pu, cu⟩, fun l hl => ?_⟩
      obtain ⟨w, c2, h1, h2⟩ := D.reach g l _ ul ru hl
      have := hm w c2 h1
      omega
    · rw [set1_ne e] at h
      exact D.rb s c' h
  · by_cases e : s = u
    · subst e
      rw [set1_same] at h
      cases h
    · rw [set1_ne e] at h
      rw [set1_ne e]
      exact D.wb s c' h
  · by_cases e : s = u
    · subst e
      rw [set1_same]
      exact .inl (fun z => nomatch z)
    · rw [set1_ne e, set1_ne e]
      exact D.dn s hs hd
  · rcases hE with hE | hE
    · have e : s ≠ u := fun z => by
        rw [z, set1_same] at hr
        cases hr
      rw [set1_ne e] at hr
      rw [set1_ne hE] at ht
      rw [set1_ne e]
      exact D.ed s k c' hs hr hc ht
    · cases hE
/-- one way into u: from b, for q; u costs c -/
def relax (R W : Nat → Option Nat) (c : Nat) (e : Nat × Nat) : Nat → Option Nat := if R e.1 = none then set1 W e.1 (some (min (c + e.2) ((W e.1).getD (c + e.2)))) else W
theorem Mid.relax {t : Task} {R W : Nat → Option Nat} {u c b q : Nat} {E : List (Nat × Nat)} (g : Good t) (M : Mid t R W u E) (hu : R u = some c) (hb : b < 2 ^ t.facts) (hk : ∃ k, t.can b k = true ∧ (t.act k).then_ b = u ∧ (t.act k).cost = q) : Mid t R (KP.relax R W c (b, q)) u (E ++ [(b, q)]) := by
  obtain ⟨k, hc, hth, hq⟩ := hk
  by_cases hr : R b = none
  · have er : KP.relax R W c (b, q) = set1 W b (some (min (c + q) ((W b).getD (c + q)))) := if_pos hr
    rw [er]
    refine ⟨M.rb, fun s c' h => ?_, fun s hs hd => ?_, fun s k' c' hs hr' hc' ht hE => ?_⟩
    · by_cases e : s = b
      · subst e
        rw [set1_same] at h
        have e2 := Option.some.inj h
        refine ⟨hr, hb, ?_⟩
        obtain ⟨lu, pu, cu⟩ := (M.rb u c hu).2.1
        have new : ∃ l, t.plan s l = true ∧ t.price l = c + q := ⟨k :: lu, plan_cons_iff.mpr ⟨hc, by rw [hth]; exact pu⟩, by rw [price_cons, cu, hq]; omega⟩
        cases hw : W s with
        | none =>
          rw [hw] at e2
          have e3 : c + q = c' := by simpa using e2
          rw [← e3]
          exact new
        | some w =>
          rw [hw] at e2
          have e3 : min (c + q) w = c' := by simpa using e2
          rcases Nat.le_total (c + q) w with h1 | h1
          · rw [Nat.min_eq_left h1] at e3
            rw [← e3]
            exact new
          · rw [Nat.min_eq_right h1] at e3
            rw [← e3]
            exact (M.wb s w hw).2.2
      · rw [set1_ne e] at h
        exact M.wb s c' h
    · by_cases e : s = b
      · subst e
        rw [set1_same]
        rcases M.dn s hs hd with h | h
        · exact .inl h
        · rw [h]
          exact .inr (by simp)
      · rw [set1_ne e]
        exact M.dn s hs hd
    · have old : ((t.act k').then_ s ≠ u ∨ (s, (t.act k').cost) ∈ E) → ∃ c'', set1 W b (some (min (c + q) ((W b).getD (c + q)))) s = some c'' ∧ c'' ≤ (t.act k').cost + c' := fun hE' => by
        obtain ⟨c2, h1, h2⟩ := M.ed s k' c' hs hr' hc' ht hE'
        by_cases e : s = b
        · subst e
          rw [set1_same, h1]
          exact ⟨_, rfl, by
            show min (c + q) c2 ≤ _
            have := Nat.min_le_right (c + q) c2
            omega⟩
        · rw [set1_ne e]
          exact ⟨c2, h1, h2⟩
      rcases hE with hE | hE
      · exact old (.inl hE)
      · rcases List.mem_append.mp hE with hE | hE
        · exact old (.inr hE)
        · have e := List.mem_singleton.mp hE
          have e1 : s = b := congrArg Prod.fst e
          have e2 : (t.act k').cost = q := congrArg Prod.snd e
          by_cases hth' : (t.act k').then_ s = u
          · rw [hth', hu] at ht
            have e3 := Option.some.inj ht
            subst e1
            rw [set1_same]
            refine ⟨_, rfl, ?_⟩
            have := Nat.min_le_left (c + q) ((W s).getD (c + q))
            omega
          · exact old (.inl hth')
  · have er : KP.relax R W c (b, q) = W := if_neg hr
    rw [er]
    refine ⟨M.rb, M.wb, M.dn, fun s k' c' hs hr' hc' ht hE => ?_⟩
    rcases hE with hE | hE
    · exact M.ed s k' c' hs hr' hc' ht (.inl hE)
    · rcases List.mem_append.mp hE with hE | hE
      · exact M.ed s k' c' hs hr' hc' ht (.inr hE)
      · have e := List.mem_singleton.mp hE
        have e1 : s = b := congrArg Prod.fst e
        rw [e1] at hr'
        exact absurd hr' hr
/-- all ways into u: from where, for what -/
def waysOf (t : Task) (a : Act) (u : Nat) : List (Nat × Nat) := ((List.range (2 ^ t.facts)).filter fun s => a.may s && decide (a.then_ s = u)).map fun s => (s, a.cost)
def ways (t : Task) (u : Nat) : List (Nat × Nat) := t.acts.flatMap fun a => waysOf t a u
theorem mem_ways {t : Task} {u b q : Nat} : (b, q) ∈ ways t u ↔ b < 2 ^ t.facts ∧ ∃ k, t.can b k = true ∧ (t.act k).then_ b = u ∧ (t.act k).cost = q := by
  unfold ways waysOf
  rw [List.mem_flatMap]
  constructor
  · rintro ⟨a, ha, h⟩
    obtain ⟨s, hs, e⟩ := List.mem_map.mp h
    rw [List.mem_filter, List.mem_range, Bool.and_eq_true, decide_eq_true_eq] at hs
    have e1 : s = b := congrArg Prod.fst e
    have e2 : a.cost = q := congrArg Prod.snd e
    subst e1
    obtain ⟨k, hk, ek⟩ := mem_act ha
    exact ⟨hs.1, k, can_iff.mpr ⟨hk, by rw [ek]; exact hs.2.1⟩, by rw [ek]; exact hs.2.2, by rw [ek]; exact e2⟩
  · rintro ⟨hb, k, hc, hth, hq⟩
    obtain ⟨hk, hm⟩ := can_iff.mp hc
    refine ⟨t.act k, act_mem hk, List.mem_map.mpr ⟨b, ?_, by rw [hq]⟩⟩
    rw [List.mem_filter, List.mem_range, Bool.and_eq_true, decide_eq_true_eq]
    exact ⟨hb, hm, hth⟩
theorem Mid.whole {t : Task} {R W : Nat → Option Nat} {u : Nat} (M : Mid t R W u (ways t u)) : Dij t R W := by
  refine ⟨M.rb, M.wb, M.dn, fun s k c hs hr hc ht => M.ed s k c hs hr hc ht ?_⟩
  by_cases e : (t.act k).then_ s = u
  · exact .inr (mem_ways.mpr ⟨hs, k, hc, e, rfl⟩)
  · exact .inl e
/-- nothing waits: all is settled -/
theorem Dij.done {t : Task} (g : Good t) {R W : Nat → Option Nat} (D : Dij t R W) (hW : ∀ s, W s = none) {s : Nat} (hs : s < 2 ^ t.facts) : R s = at_ t.costs s := by
  have C := costs_dist g
  cases e : R s with
  | none =>
    refine ((C.none_iff hs).mpr fun l => ?_).symm
    cases h : t.plan s l with
    | false => rfl
    | true =>
      obtain ⟨w, c, h1, _⟩ := D.reach g l s hs e h
      rw [hW w] at h1
      cases h1
  | some c =>
    obtain ⟨_, ⟨l, h1, h2⟩, h3⟩ := D.rb s c e
    obtain ⟨c2, h4, h5⟩ := C.whole s l hs h1
    obtain ⟨l2, h6, h7⟩ := C.sound s c2 hs h4
    have := h3 l2 h6
    rw [h4]
    congr 1
    omega
/-! ### the walk along the table -/
theorem best_len (t : Task) (d : Array (Option Nat)) : ∀ (m s : Nat), (t.best d m s).length ≤ m
  | 0, s => Nat.le_refl _
  | m + 1, s => by
    unfold Task.best
    split
    · exact Nat.zero_le _
    · split
      · rw [List.length_cons]
        exact Nat.succ_le_succ (best_len t d m _)
      · exact Nat.zero_le _
theorem dist_zero {t : Task} (g : Good t) {d : Array (Option Nat)} (D : Dist t d) {s c : Nat} (hs : s < 2 ^ t.facts) (e : at_ d s = some c) : c = 0 ↔ t.done s = true := by
  constructor
  · intro h
    obtain ⟨l, h1, h2⟩ := D.sound s c hs e
    cases l with
    | nil => exact h1
    | cons k r =>
      have h3 := (g _ (act_mem (can_iff.mp (plan_cons_iff.mp h1).1).1)).2
      rw [price_cons] at h2
      omega
  · intro h
    obtain ⟨c2, h1, h2⟩ := D.whole s [] hs h
    rw [e] at h1
    have e2 := Option.some.inj h1
    rw [price_nil] at h2
    omega
theorem best_stop {t : Task} (g : Good t) {d : Array (Option Nat)} (D : Dist t d) {s m : Nat} (hs : s < 2 ^ t.facts) (e : at_ d s = some 0) : t.best d m s = [] := by
  have dn := (dist_zero g D hs e).mp rfl
  cases m with
  | zero => rfl
  | succ m => exact if_pos dn
/-- a step of the walk -/
theorem best_step {t : Task} (g : Good t) {d : Array (Option Nat)} (D : Dist t d) {s c m : Nat} (hs : s < 2 ^ t.facts) (e : at_ d s = some c) (hc : c ≠ 0) (hm : cnt t d c ≤ m) :
    ∃ k c' m', k < t.acts.length ∧ on t d s k = true ∧ (∀ j, on t d s j = true → k ≤ j) ∧ (t.act k).then_ s < 2 ^ t.facts ∧ at_ d ((t.act k).then_ s) = some c' ∧ c = (t.act k).cost + c' ∧ c' < c ∧ cnt t d c' ≤ m' ∧ t.best d m s = k :: t.best d m' ((t.act k).then_ s) := by
  have nd : ¬ t.done s = true := fun h => hc ((dist_zero g D hs e).mpr h)
  obtain ⟨l0, hp0, hl0⟩ := D.sound s c hs e
  have ex : ∃ k, k < t.acts.length ∧ on t d s k = true := by
    cases l0 with
    | nil => exact absurd hp0 nd
    | cons k r =>
      obtain ⟨hcn, hp2⟩ := plan_cons_iff.mp hp0
      have hu := then_lt hs (g _ (act_mem (can_iff.mp hcn).1)).1
      obtain ⟨c1, h1, h2⟩ := D.whole _ r hu hp2
      obtain ⟨l1, h3, h4⟩ := D.sound _ c1 hu h1
      obtain ⟨c5, h5, h6⟩ := D.whole s (k :: l1) hs (plan_cons_iff.mpr ⟨hcn, h3⟩)
      rw [e] at h5
      have e5 := Option.some.inj h5
      rw [price_cons] at h6 hl0
      exact ⟨k, (can_iff.mp hcn).1, (on_iff e).mpr ⟨hcn, c1, h1, by omega⟩⟩
  obtain ⟨k0, k0l, on0⟩ := ex
  cases ef : (List.range t.acts.length).find? (on t d s) with
  | none => exact absurd on0 (List.find?_eq_none.mp ef k0 (List.mem_range.mpr k0l))
  | some k =>
    have onk := List.find?_some ef
    obtain ⟨hcn, c', h1, h2⟩ := (on_iff e).mp onk
    have hkl := (can_iff.mp hcn).1
    have ga := g _ (act_mem hkl)
    have hu := then_lt hs ga.1
    have hlt : c' < c := by have := ga.2; omega
    have h3 := cnt_lt (t := t) hu h1 hlt
    have hmin : ∀ j, on t d s j = true → k ≤ j := fun j hj => by
      have h4 := List.find?_range_eq_some.mp ef
      rcases Nat.lt_or_ge j k with h5 | h5
      · have h6 := h4.2.2 j h5
        rw [hj] at h6
        cases h6
      · exact h5
    cases m with
    | zero => omega
    | succ m =>
      refine ⟨k, c', m, hkl, onk, hmin, hu, h1, h2, hlt, by omega, ?_⟩
      show (if t.done s = true then [] else match (List.range t.acts.length).find? (on t d s) with
        | some k => k :: t.best d m ((t.act k).then_ s)
        | none => []) = _
      rw [if_neg nd, ef]
theorem first_is {t : Task} (s : Nat) : t.first s = (at_ t.costs s).map fun _ => t.best t.costs (2 ^ t.facts) s := by
  show (match at_ t.costs s with | none => none | some _ => some (t.best t.costs (2 ^ t.facts) s)) = _
  cases at_ t.costs s <;> rfl
end KP
set_option Elab.async false
set_option linter.all false
/-! Acts with things in their places. -/
namespace KP
open Pn16
theorem mem_acts {x : Text} {k : Nat} {r : List Nat} : (k, r) ∈ acts x ↔ k < x.acts.length ∧ r ∈ rows x ((x.acts.getD k none_).places.map fun p => p.2) := by
  unfold acts
  rw [List.mem_flatMap]
  constructor
  · rintro ⟨q, hq, h⟩
    obtain ⟨u, hu, e⟩ := List.mem_map.mp h
    obtain ⟨e1, e2⟩ := Prod.mk.inj e
    subst e1 e2
    exact ⟨List.mem_range.mp hq, hu⟩
  · rintro ⟨h1, h2⟩
    exact ⟨k, List.mem_range.mpr h1, List.mem_map.mpr ⟨r, h2, rfl⟩⟩
/-- things that fit an act's places -/
structure Fits (x : Text) (s : Schema) (r : List Nat) : Prop where
  len : r.length = s.places.length
  args : ∀ i ∈ r, i < x.things.length
  kinds : r.map (thingKind x) = s.places.map fun p => p.2
theorem fits_of {x : Text} {g : Nat × List Nat} (h : g ∈ acts x) : ∃ s, x.acts[g.1]? = some s ∧ x.acts.getD g.1 none_ = s ∧ s ∈ x.acts ∧ Fits x s g.2 := by
  obtain ⟨k, r⟩ := g
  obtain ⟨h1, h2⟩ := mem_acts.mp h
  have e : x.acts[k]? = some x.acts[k] := List.getElem?_eq_getElem h1
  have e2 : x.acts.getD k none_ = x.acts[k] := by rw [List.getD_eq_getElem?_getD, e]; rfl
  rw [e2] at h2
  obtain ⟨h3, h4, h5⟩ := mem_rows.mp h2
  refine ⟨x.acts[k], e, e2, List.getElem_mem h1, ⟨?_, h4, h5⟩⟩
  rw [List.length_map] at h3
  exact h3
/-- what stands for a word of a claim -/
def fill (x : Text) (s : Schema) (r : List Nat) (w : Bytes) : Bytes := match indexOf (names s.places) w with
  | some i => thingName x (r.getD i 0)
  | none => w
def putArg (r : List Nat) : Arg → Nat
  | .place i => r.getD i 0
  | .thing k => k
theorem put_args (r : List Nat) (l : Lit) : put r l = (l.1, l.2.map (putArg r)) := by
  unfold put
  have e : (l.2.map fun a => match a with
      | .place i => r.getD i 0
      | .thing k => k) = l.2.map (putArg r) := List.map_congr_left fun a _ => by cases a <;> rfl
  rw [← e] <;> rfl
theorem names_length {α : Type} (l : List (Bytes × α)) : (names l).length = l.length := by
  unfold names
  rw [List.length_map]
theorem index_at {l : List Bytes} (nd : l.Nodup) {i : Nat} (h : i < l.length) : indexOf l (l.getD i []) = some i := by
  have e : l.getD i [] = l[i] := by rw [List.getD_eq_getElem?_getD, List.getElem?_eq_getElem h]; rfl
  cases hx : indexOf l (l.getD i []) with
  | none => exact absurd (by rw [e]; exact List.getElem_mem h) (index_none hx)
  | some j =>
    obtain ⟨h1, h2, _, _⟩ := index_some hx
    have e2 : l.getD j [] = l[j] := by rw [List.getD_eq_getElem?_getD, List.getElem?_eq_getElem h1]; rfl
    rw [e, e2] at h2
    rw [(List.getElem_inj nd).mp h2]
theorem index_miss {l : List Bytes} {w : Bytes} (h : w ∉ l) : indexOf l w = none := by
  cases hx : indexOf l w with
  | none => rfl
  | some j => exact absurd (index_some hx).2.2.1 h
theorem fill_arg {x : Text} {s : Schema} {r : List Nat} (ha : ActOk x s) {a : Arg} (h : argOk x s a) : fill x s r (argName x s a) = thingName x (putArg r a) := by
  unfold fill
  cases a with
  | place i =>
    have h1 : i < (names s.places).length := by rw [names_length]; exact h
    show (match indexOf (names s.places) ((names s.places).getD i []) with | some j => thingName x (r.getD j 0) | none => _) = _
    rw [index_at ha.apart h1] <;> rfl
  | thing k =>
    have hk : k < x.things.length := h
    have hin : thingName x k ∈ names x.things := by
      unfold thingName
      have h1 : k < (names x.things).length := by rw [names_length]; exact hk
      rw [List.getD_eq_getElem?_getD, List.getElem?_eq_getElem h1]
      exact List.getElem_mem h1
    show (match indexOf (names s.places) (thingName x k) with | some j => thingName x (r.getD j 0) | none => thingName x k) = _
    rw [index_miss fun m => ha.things _ m hin] <;> rfl
theorem fill_lit {x : Text} {s : Schema} {r : List Nat} (ha : ActOk x s) {l : Lit} (h : LitOk x s l) : factName x l.1 :: (l.2.map (argName x s)).map (fill x s r) = saidWords x (put r l) := by
  rw [put_args]
  unfold saidWords
  rw [List.map_map, List.map_map]
  congr 1
  exact List.map_congr_left fun a m => fill_arg ha (h.args a m)
theorem put_ok {x : Text} {s : Schema} {r : List Nat} (hr : Fits x s r) {l : Lit} (h : LitOk x s l) : SaidOk x (put r l) := by
  have hin : ∀ {i}, i < s.places.length → i < r.length := fun {i} hi => by rw [hr.len]; exact hi
  rw [put_args]
  refine ⟨h.fact, fun i hi => ?_, ?_⟩
  · obtain ⟨a, ha, rfl⟩ := List.mem_map.mp hi
    have h1 := h.args a ha
    cases a with
    | place j =>
      show r.getD j 0 < _
      rw [List.getD_eq_getElem?_getD, List.getElem?_eq_getElem (hin h1)]
      exact hr.args _ (List.getElem_mem _)
    | thing k => exact h1
  · show (l.2.map (putArg r)).map (thingKind x) = kindsOf x l.1
    rw [← h.kinds, List.map_map]
    refine List.map_congr_left fun a ha => ?_
    have h1 := h.args a ha
    cases a with
    | place j =>
      show thingKind x (r.getD j 0) = ((s.places[j]?).map fun p => p.2).getD 0
      have e : (r.map (thingKind x))[j]? = (s.places.map fun p => p.2)[j]? := by rw [hr.kinds]
      rw [List.getElem?_map, List.getElem?_map, List.getElem?_eq_getElem (hin h1)] at e
      rw [← e, List.getD_eq_getElem?_getD, List.getElem?_eq_getElem (hin h1)] <;> rfl
    | thing k => rfl
/-- the words of an act with things -/
def sayWords (x : Text) (g : Nat × List Nat) : List Bytes := (x.acts.getD g.1 none_).name :: g.2.map (thingName x)
theorem say_is (x : Text) (g : Nat × List Nat) : say x g = line (sayWords x g) := rfl
/-- the task of a text: acts bring what is among its facts, and cost something -/
theorem task_good {x : Text} (hx : TextOk x) : Good (task x) := by
  intro a ha
  have ha' : a ∈ (acts x).map (actOf x) := ha
  obtain ⟨g, hg, rfl⟩ := List.mem_map.mp ha'
  obtain ⟨s, _, e2, h3, _⟩ := fits_of hg
  refine ⟨setOf_lt x _, ?_⟩
  show 1 ≤ (x.acts.getD g.1 none_).cost
  rw [e2]
  exact (hx.acts.2.2 s h3).cost.1
theorem task_start (x : Text) : (task x).start < 2 ^ (task x).facts := setOf_lt x _
theorem task_acts (x : Text) : (task x).acts = (acts x).map (actOf x) := rfl
end KP
set_option Elab.async false
set_option linter.all false
set_option maxRecDepth 100000
set_option maxHeartbeats 2000000
namespace KP
open PySem PySem.Spec PyProof.Rows L2
/-- the i-th statement of the program -/
def top (i : Nat) : Stmt := PySem.Challenge.pw_kindplans_s01_answers.main.body.getD i (.Pass ⟨0, 0, 0, 0⟩)
/-- a text from its codes -/
abbrev S (l : List Nat) : Str := ⟨l.toArray⟩
/-- a def of the program: it stands under its name and keeps its promise -/
structure Has (P : Program) (w : World) (K : PySem.W.Frag) (mg : Str → Option Value) (base : Heap) (k : Nat) (x : Str) (ps : List Str) (sp : Sp) : Prop where
  ex : ∃ f fd, FnOk P w K mg base CX0 k f fd ps sp ∧ mg x = some (.ref f) ∧ PySem.W.keepIn K (.ref f) = true ∧ Binds K fd ps []
section
variable {X : Cx} {k : Nat} {x : Str} {ps : List Str} {sp : Sp} {p pos : Pos} {e : Expr} {es : List Expr} {t : TA}
theorem pe_own (h : Has X.prog X.w X.K X.mg X.base k x ps sp) (hr : Room k X.A) (hg : Gl X x) (ha : PA X (e :: es) t) (hdb : (x == ("__debug__" : Str)) = false := by decide)
    (he : starEach (e :: es) X.env = (false, eval e X.env) :: starEach es X.env := by rfl) (hpl : (backTo pos (starEach es X.env)).any (·.1) = false := by rfl) : PE X (.Call (.Name x p) (e :: es) [] pos) (tCall sp [] E0 t) := by
  obtain ⟨f, fd, F, hm, hk, hb⟩ := h.ex
  exact pe_call F hr hg hm hk hb .nil pass0 ha hdb he hpl
end
end KP
set_option Elab.async false
set_option linter.all false
set_option maxRecDepth 100000
set_option maxHeartbeats 2000000
/-! What the readings come to, over a part F of the heap that stays as it is. -/
namespace KP
open PySem PySem.Spec PyProof.Rows L2 Evl
/-! ### F and what is new since H -/
def glue (F H H2 : Hp) : Hp := fun b => match F b with
  | some o => some o
  | none => match H b with
    | some _ => none
    | none => H2 b
section
variable {F H H1 H2 H3 : Hp} {b : Addr} {o : HO}
theorem glue_some (h : F b = some o) : glue F H H2 b = some o := by unfold glue; rw [h]
theorem glue_none (h : F b = none) (h1 : H b = none) : glue F H H2 b = H2 b := by unfold glue; rw [h, h1]
theorem glue_old (h : F b = none) (h1 : H b = some o) : glue F H H2 b = none := by unfold glue; rw [h, h1]
theorem glue_new (e : Ex F H) (h1 : H b = none) : glue F H H2 b = H2 b := glue_none (fresh_back e h1) h1
theorem glue_F : Ex F (glue F H H2) := fun _ _ h => glue_some h
theorem glue_sub (e : Ex F H2) : Ex (glue F H H2) H2 := fun b o h => by
  cases hF : F b with
  | some u =>
    rw [glue_some hF] at h
    cases h
    exact e b _ hF
  | none =>
    cases hH : H b with
    | some u =>
      rw [glue_old hF hH] at h
      cases h
    | none =>
      rw [glue_none hF hH] at h
      exact h
theorem glue_ext (e : Ex H2 H3) : Ex (glue F H H2) (glue F H H3) := fun b o h => by
  cases hF : F b with
  | some u =>
    rw [glue_some hF] at h ⊢
    exact h
  | none =>
    cases hH : H b with
    | some u =>
      rw [glue_old hF hH] at h
      cases h
    | none =>
      rw [glue_none hF hH] at h ⊢
      exact e b o h
theorem glue_trans (e1 : Ex H1 H2) (e2 : Ex H2 H3) : Ex (glue (glue F H1 H2) H2 H3) (glue F H1 H3) := fun b o h => by
  cases hF : F b with
  | some u =>
    rw [glue_some (glue_some hF)] at h
    rw [glue_some hF]
    exact h
  | none =>
    cases hH : H1 b with
    | some u =>
      have g := glue_old (H2 := H2) hF hH
      rw [glue_old g (e1 b _ hH)] at h
      cases h
    | none =>
      rw [glue_none hF hH]
      have g := glue_none (H2 := H2) hF hH
      cases h2 : H2 b with
      | some u =>
        rw [h2] at g
        rw [glue_some g] at h
        cases h
        exact e2 b _ h2
      | none =>
        rw [h2] at g
        rw [glue_none g h2] at h
        exact h
/-- what is new since later is new since earlier -/
theorem glue_mono {F' : Hp} (eF : Ex F F') (e1 : Ex H H1) (hF' : ∀ b, F b = none → H b ≠ none → F' b = none) (e2 : Ex F' H2) : Ex (glue F' H1 H2) (glue F H H2) := fun b o h => by
  cases hF : F b with
  | some u =>
    rw [glue_some (eF b _ hF)] at h
    rw [glue_some hF]
    exact h
  | none =>
    cases hH : H b with
    | some u =>
      have q := hF' b hF (by rw [hH]; exact fun z => nomatch z)
      rw [glue_old q (e1 b _ hH)] at h
      cases h
    | none =>
      rw [glue_none hF hH]
      cases hq : F' b with
      | some u =>
        rw [glue_some hq] at h
        cases h
        exact e2 b _ hq
      | none =>
        cases h1 : H1 b with
        | some u =>
          rw [glue_old hq h1] at h
          cases h
        | none =>
          rw [glue_none hq h1] at h
          exact h
end
theorem glue_one {F H H1 H2 : Hp} (e1 : Ex H H1) (e2 : Ex F H2) : Ex (glue F H1 H2) (glue F H H2) := glue_mono (Ex.refl F) e1 (fun _ h _ => h) e2
/-! ### data of any depth -/
mutual
theorem dp_mono {K : PySem.W.Frag} {H H' : Hp} (e : Ex H H') : ∀ {v : V} {d : PyData}, Dp K H v d → Dp K H' v d
  | _, _, .non => .non
  | _, _, .bl b => .bl b
  | _, _, .int i => .int i
  | _, _, .str x => .str x
  | _, _, .lst h a => .lst (ex_l e h) (dpAll_mono e a)
  | _, _, .tup h a => .tup (ex_t e h) (dpAll_mono e a)
theorem dpAll_mono {K : PySem.W.Frag} {H H' : Hp} (e : Ex H H') : ∀ {vs : List V} {ds : List PyData}, DpAll K H vs ds → DpAll K H' vs ds
  | _, _, .nil => .nil
  | _, _, .cons h a => .cons (dp_mono e h) (dpAll_mono e a)
end
section
variable {K : PySem.W.Frag} {H : Hp}
theorem dpAll_length : ∀ {vs : List V} {ds : List PyData}, DpAll K H vs ds → vs.length = ds.length
  | _, _, .nil => rfl
  | _, _, .cons _ a => congrArg (· + 1) (dpAll_length a)
theorem dpAll_get : ∀ {vs : List V} {ds : List PyData} {i : Nat} {d : PyData}, DpAll K H vs ds → ds[i]? = some d → ∃ v, vs[i]? = some v ∧ Dp K H v d
  | _, _, _, _, .nil, h => by simp at h
  | _, _, 0, _, .cons (v := v) h a, e => by
    simp at e
    subst e
    exact ⟨v, rfl, h⟩
  | _, _, i + 1, _, .cons h a, e => by
    obtain ⟨u, h1, h2⟩ := dpAll_get (i := i) a (by simpa using e)
    exact ⟨u, by simpa using h1, h2⟩
theorem dpAll_getv : ∀ {vs : List V} {ds : List PyData} {i : Nat} {v : V}, DpAll K H vs ds → vs[i]? = some v → ∃ d, ds[i]? = some d ∧ Dp K H v d
  | _, _, _, _, .nil, h => by simp at h
  | _, _, 0, _, .cons (d := d) h a, e => by
    simp at e
    subst e
    exact ⟨d, rfl, h⟩
  | _, _, i + 1, _, .cons h a, e => by
    obtain ⟨u, h1, h2⟩ := dpAll_getv (i := i) a (by simpa using e)
    exact ⟨u, by simpa using h1, h2⟩
theorem dpAll_snoc : ∀ {vs : List V} {ds : List PyData} {v : V} {d : PyData}, DpAll K H vs ds → Dp K H v d → DpAll K H (vs ++ [v]) (ds ++ [d])
  | _, _, _, _, .nil, h => .cons h .nil
  | _, _, _, _, .cons h a, q => .cons h (dpAll_snoc a q)
theorem dpAll_append : ∀ {vs us : List V} {ds es : List PyData}, DpAll K H vs ds → DpAll K H us es → DpAll K H (vs ++ us) (ds ++ es)
  | _, _, _, _, .nil, h => h
  | _, _, _, _, .cons h a, q => .cons h (dpAll_append a q)
theorem dpAll_strs : ∀ {vs : List V} {ws : List Str}, DpAll K H vs (ws.map PyData.str) → vs = ws.map V.str
  | _, [], .nil => rfl
  | _, w :: ws, .cons h a => by
    cases h
    rw [dpAll_strs a] <;> rfl
theorem dpAll_ints : ∀ {vs : List V} {ws : List Int}, DpAll K H vs (ws.map PyData.int) → vs = ws.map V.int
  | _, [], .nil => rfl
  | _, w :: ws, .cons h a => by
    cases h
    rw [dpAll_ints a] <;> rfl
theorem strs_dpAll : ∀ (ws : List Str), DpAll K H (ws.map V.str) (ws.map PyData.str)
  | [] => .nil
  | w :: ws => .cons (.str w) (strs_dpAll ws)
theorem ints_dpAll : ∀ (ws : List Int), DpAll K H (ws.map V.int) (ws.map PyData.int)
  | [] => .nil
  | w :: ws => .cons (.int w) (ints_dpAll ws)
end
/-! ### what evaluates to something with objects of its own -/
/-- the value v, P of it in F and the new objects -/
def EvG (te : TE) (σ : L2.St) (F : Hp) (P : V → Hp → Prop) : Prop := ∀ H1, Ex F H1 → ∀ Q : VK, (∀ v H2, Ex H1 H2 → P v (glue F H1 H2) → Q v H2) → te σ H1 Q
/-- what is walked: n turns, Y of each, while F stands -/
def Goes (wi : TI) (σ : L2.St) (F : Hp) (n : Nat) (Y : Nat → Hp → V → Hp → Prop) : Prop := ∀ H1, Ex F H1 → ∀ R : It → Hp → Prop, (∀ J H2, Ex H1 H2 → Walk J n (Ex F) Y → R J H2) → wi σ H1 R
/-- the same, where what is walked may be new: F2 is F and new things -/
def GoesN (wi : TI) (σ : L2.St) (F : Hp) (n : Nat) (Y : Nat → Hp → V → Hp → Prop) : Prop := ∀ H1, Ex F H1 → ∀ R : It → Hp → Prop, (∀ J H2 F2, Ex H1 H2 → Ex F F2 → Ex F2 H2 → (∀ b, H1 b ≠ none → F b = none → F2 b = none) → Walk J n (Ex F2) Y → R J H2) → wi σ H1 R
section
variable {K : PySem.W.Frag} {σ : L2.St} {F F' H : Hp} {ta tb tc te tl : TE} {t : TT} {x y z v : V} {r r' : R2}
theorem Goes.new {wi : TI} {n : Nat} {Y : Nat → Hp → V → Hp → Prop} (h : Goes wi σ F n Y) : GoesN wi σ F n Y := fun H1 e R q => h H1 e R fun J H2 e2 w => q J H2 F e2 (Ex.refl F) (e.trans e2) (fun _ _ z => z) w
theorem EvG.mono (e : Ex F F') {P : V → Hp → Prop} (hP : ∀ v G G', Ex G G' → P v G → P v G') (h : EvG te σ F P) : EvG te σ F' P := fun H1 a Q q =>
  h H1 (e.trans a) Q fun v H2 e2 p => q v H2 e2 (hP v _ _ (fun b o hb => by
    cases hF : F b with
    | some u =>
      rw [glue_some hF] at hb
      rw [glue_some (e b _ hF)]
      exact hb
    | none =>
      cases hH : H1 b with
      | some u =>
        rw [glue_old hF hH] at hb
        cases hb
      | none =>
        rw [glue_none hF hH] at hb
        rw [glue_new a hH]
        exact hb) p)
theorem Goes.mono {wi : TI} {n : Nat} {Y : Nat → Hp → V → Hp → Prop} (e : Ex F F') (h : Goes wi σ F n Y) : Goes wi σ F' n Y := fun H1 a R q =>
  h H1 (e.trans a) R fun J H2 e2 w => q J H2 e2 (w.mono (fun H g => e.trans g) (fun _ _ _ _ _ _ y => y))
theorem ev_cb {rc : List V → Hp → VK → Prop} {tas : TA} {vs : List V} (ha : EvA tas σ F vs) (hr : RC rc vs F z) : Ev (tCB rc tas) σ F z := fun H1 e Q q =>
  ha H1 e _ (fun N k2 => hr N (e.trans k2) Q (fun M k3 => q M (k2.trans k3)))
theorem ev_ord {c : Nat} (ha : Ev ta σ F (.str (S [c]))) : Ev (tCB (fun xs H Q => ∃ x, xs = [V.str x] ∧ x.length = 1 ∧ Q (V.int (x.cps.getD 0 0 : Nat)) H) (tCons ta tNil)) σ F (.int c) :=
  ev_cb (ea_cons ha ea_nil) fun H1 _ _ q => ⟨S [c], rfl, rfl, q H1 (Ex.refl H1)⟩
theorem ev_lenS {z : Str} (ha : Ev ta σ F (.str z)) (h : z.length ≤ 100000) : Ev (tCB (fun xs H Q => ∃ z, xs = [V.str z] ∧ z.length ≤ sizeLine ∧ Q (V.int (z.length : Nat)) H) (tCons ta tNil)) σ F (.int z.length) :=
  ev_cb (ea_cons ha ea_nil) fun H1 _ _ q => ⟨z, rfl, sz_of h, q H1 (Ex.refl H1)⟩
/-- a <= b <= c, of ints -/
theorem et_chain {f g : Int → Int → Bool} {i j k : Int} (ha : Ev ta σ F (.int i)) (hb : Ev tb σ F (.int j)) (hc : Ev tc σ F (.int k)) :
    EvT (tTest (tChain (rI0 fun i j => .bl (f i j)) (rI0 fun i j => .bl (g i j)) ta tb tc)) σ F (f i j && g j k) := fun H1 e Q q =>
  ha H1 e _ fun H2 e2 => hb H2 (e.trans e2) _ fun H3 e3 => ⟨i, j, rfl, rfl, f i j, rfl, by
    cases h : f i j with
    | true =>
      refine iteT ?_
      exact hc H3 ((e.trans e2).trans e3) _ fun H4 e4 => ⟨j, k, rfl, rfl, g j k, rfl, by
        have := q H4 ((e2.trans e3).trans e4)
        rw [h, Bool.true_and] at this
        exact this⟩
    | false =>
      refine iteF ?_
      refine ⟨false, rfl, ?_⟩
      have := q H3 (e2.trans e3)
      rw [h, Bool.false_and] at this
      exact this⟩
theorem ev_sub {i j : Int} (ha : Ev ta σ F (.int i)) (hb : Ev tb σ F (.int j)) : Ev (tOp (rI0 fun i j => .int (i - j)) ta tb) σ F (.int (i - j)) := ev_op ha hb rv_I0
theorem ev_add {i j : Int} (ha : Ev ta σ F (.int i)) (hb : Ev tb σ F (.int j)) : Ev (tOp (rI0 fun i j => .int (i + j)) ta tb) σ F (.int (i + j)) := ev_op ha hb rv_I0
theorem ev_cmpI {f : Int → Int → Bool} {i j : Int} (ha : Ev ta σ F (.int i)) (hb : Ev tb σ F (.int j)) : Ev (tOp (rI0 fun i j => .bl (f i j)) ta tb) σ F (.bl (f i j)) := ev_op ha hb rv_I0
theorem et_cmpI {f : Int → Int → Bool} {i j : Int} (ha : Ev ta σ F (.int i)) (hb : Ev tb σ F (.int j)) : EvT (tTest (tOp (rI0 fun i j => .bl (f i j)) ta tb)) σ F (f i j) := et_test (ev_cmpI ha hb)
theorem et_eq (ha : Ev ta σ F x) (hb : Ev tb σ F y) (h : scal x y = true) : EvT (tTest (tOp rEq ta tb)) σ F (decide (x = y)) := et_test (ev_op ha hb (rv_eq h))
theorem int_eq {i j : Int} : decide (V.int i = V.int j) = decide (i = j) := by
  by_cases h : i = j
  · rw [h]; simp
  · rw [decide_eq_false h, decide_eq_false fun e => h (V.int.inj e)]
theorem str_eq {i j : Str} : decide (V.str i = V.str j) = decide (i = j) := by
  by_cases h : i = j
  · rw [h]; simp
  · rw [decide_eq_false h, decide_eq_false fun e => h (V.str.inj e)]
theorem et_eqI {i j : Int} (ha : Ev ta σ F (.int i)) (hb : Ev tb σ F (.int j)) : EvT (tTest (tOp rEq ta tb)) σ F (decide (i = j)) := et_is (et_eq ha hb rfl) int_eq
theorem et_eqS {i j : Str} (ha : Ev ta σ F (.str i)) (hb : Ev tb σ F (.str j)) : EvT (tTest (tOp rEq ta tb)) σ F (decide (i = j)) := et_is (et_eq ha hb rfl) str_eq
theorem et_neS {i j : Str} (ha : Ev ta σ F (.str i)) (hb : Ev tb σ F (.str j)) : EvT (tTest (tOp rNe ta tb)) σ F (!decide (i = j)) := et_is (et_test (ev_op ha hb (rv_ne rfl))) (congrArg Bool.not str_eq)
/-- one sign in a text -/
theorem ev_inSign {c : Nat} {z : Str} (ha : Ev ta σ F (.str (S [c]))) (hb : Ev tb σ F (.str z)) :
    Ev (tOp (fun x y H Q => ∃ (c : Nat) (z : Str), x = .str ⟨#[c]⟩ ∧ y = .str z ∧ Q (.bl (decide (c ∈ z.cps.toList))) H) ta tb) σ F (.bl (decide (c ∈ z.cps.toList))) :=
  ev_op ha hb fun H1 _ _ q => ⟨c, z, rfl, rfl, q H1 (Ex.refl H1)⟩
theorem ev_notInSign {c : Nat} {z : Str} (ha : Ev ta σ F (.str (S [c]))) (hb : Ev tb σ F (.str z)) :
    Ev (tOp (fun x y H Q => ∃ (c : Nat) (z : Str), x = .str ⟨#[c]⟩ ∧ y = .str z ∧ Q (.bl (!decide (c ∈ z.cps.toList))) H) ta tb) σ F (.bl (!decide (c ∈ z.cps.toList))) :=
  ev_op ha hb fun H1 _ _ q => ⟨c, z, rfl, rfl, q H1 (Ex.refl H1)⟩
/-! ### calls of own defs -/
theorem ev_call {sp : Sp} {tas : TA} {vs : List V} (ha : EvA tas σ F vs) (hs : ∀ H1, Ex F H1 → ∀ Q : VK, (∀ H2, Ex H1 H2 → Q v H2) → sp vs H1 Q E0) : Ev (tCall sp [] E0 tas) σ F v := fun H1 e Q q =>
  ha H1 e _ fun H2 e2 => by
    show sp (vs ++ []) H2 Q E0
    rw [List.append_nil]
    exact hs H2 (e.trans e2) Q fun H3 e3 => q H3 (e2.trans e3)
theorem eg_call {sp : Sp} {tas : TA} {vs : List V} {P : V → Hp → Prop} (hP : ∀ v G G', Ex G G' → P v G → P v G') (ha : EvA tas σ F vs) (hs : ∀ H1, Ex F H1 → ∀ Q : VK, (∀ v H2, Ex H1 H2 → P v (glue F H1 H2) → Q v H2) → sp vs H1 Q E0) : EvG (tCall sp [] E0 tas) σ F P := fun H1 e Q q =>
  ha H1 e _ fun H2 e2 => by
    show sp (vs ++ []) H2 Q E0
    rw [List.append_nil]
    exact hs H2 (e.trans e2) Q fun v H3 e3 p => q v H3 (e2.trans e3) (hP v _ _ (glue_one e2 ((e.trans e2).trans e3)) p)
/-! ### what is walked -/
theorem goes_list {a : Addr} {xs : List V} (h : Ev tl σ F (.ref a)) (hx : SqL K F a xs) : Goes (iList K tl) σ F xs.length (YAt xs) := fun H1 e R q =>
  h H1 e _ fun H2 e2 => ⟨a, rfl, ⟨xs, ex_l (e.trans e2) hx⟩, q _ H2 e2 (walk_list.mono (fun H g => ex_l g hx) (fun _ _ _ _ _ _ y => y))⟩
theorem goes_tup {a : Addr} {xs : List V} (h : Ev tl σ F (.ref a)) (hx : SqT K F a xs) : Goes (iTup K tl) σ F xs.length (YAt xs) := fun H1 e R q =>
  h H1 e _ fun H2 e2 => ⟨a, rfl, ⟨xs, ex_t (e.trans e2) hx⟩, q _ H2 e2 (walk_tup.mono (fun H g => ex_t g hx) (fun _ _ _ _ _ _ y => y))⟩
theorem goes_str {l : List Nat} (h : Ev tl σ F (.str (S l))) : Goes (iStr tl) σ F l.length (YAt (l.map fun c => .str (S [c]))) := fun H1 e R q =>
  h H1 e _ fun H2 e2 => ⟨S l, rfl, q _ H2 e2 (walk_str.mono (fun _ _ => trivial) (fun i H x H' hi _ y => by
    obtain ⟨e1, c, h1, rfl⟩ := y
    refine ⟨e1, ?_⟩
    have h2 : l[i]? = some c := by simpa using h1
    rw [List.getElem?_map, h2]
    rfl))⟩
/-- over a new list -/
theorem goes_new {xs : List V} (h : EvL tl σ F xs) : GoesN (iList K tl) σ F xs.length (YAt xs) := fun H1 e R q =>
  h H1 e _ fun a H2 ha e2 h2 => ⟨a, rfl, ⟨xs, sq_of h2⟩, q _ H2 (glue F H1 H2) e2 glue_F (glue_sub (e.trans e2)) (fun b hb hF => by
    cases hH : H1 b with
    | none => exact absurd hH hb
    | some o => exact glue_old hF hH) (walk_list.mono (fun H g => sq_of (g a _ (by rw [glue_new e ha]; exact h2))) (fun _ _ _ _ _ _ y => y))⟩
/-! ### loops -/
theorem s_for {wi : TI} {n : Nat} {Y : Nat → Hp → V → Hp → Prop} {g : TG} {tu : TS} {D : Ends} (G : Goes wi σ F n Y) (eF : Ex F H) (Pv : Nat → L2.St → Hp → Prop) (h0 : ∀ H1, Ex H H1 → Pv 0 σ H1) (hG : ∀ i σ' H', i ≤ n → Pv i σ' H' → Ex F H')
    (hs : ∀ i x σ' H1 H', i < n → Pv i σ' H1 → Y i H1 x H' → g x σ' H' fun σ2 H2 => tu { D with nx := Pv (i + 1), ct := Pv (i + 1), bk := D.nx } σ2 H2) (hd : ∀ σ' H', Pv n σ' H' → D.nx σ' H') : tFor wi g tu D σ H :=
  G H eF _ fun J H2 e2 w => for_it w Pv (h0 H2 e2) hG hs hd
theorem q_for {wi : TI} {n : Nat} {Y : Nat → Hp → V → Hp → Prop} {g : TG} {tu tz : TS} {D : Ends} (G : Goes wi σ F n Y) (eF : Ex F H) (Pv : Nat → L2.St → Hp → Prop) (h0 : ∀ H1, Ex H H1 → Pv 0 σ H1) (hG : ∀ i σ' H', i ≤ n → Pv i σ' H' → Ex F H')
    (hs : ∀ i x σ' H1 H', i < n → Pv i σ' H1 → Y i H1 x H' → g x σ' H' fun σ2 H2 => tu { D with nx := Pv (i + 1), ct := Pv (i + 1), bk := tz D } σ2 H2) (hd : ∀ σ' H', Pv n σ' H' → tz D σ' H') : tSeq (tFor wi g tu) tz D σ H :=
  s_for (D := { D with nx := tz D }) G eF Pv h0 hG hs hd
/-- over what may be new: F2 is what stands -/
theorem s_forN {wi : TI} {n : Nat} {Y : Nat → Hp → V → Hp → Prop} {g : TG} {tu : TS} {D : Ends} (G : GoesN wi σ F n Y) (eF : Ex F H) (Pv : Hp → Nat → L2.St → Hp → Prop)
    (h0 : ∀ H1 F2, Ex H H1 → Ex F F2 → Ex F2 H1 → (∀ b, H b ≠ none → F b = none → F2 b = none) → Pv F2 0 σ H1) (hG : ∀ F2 i σ' H', i ≤ n → Pv F2 i σ' H' → Ex F2 H')
    (hs : ∀ F2 i x σ' H1 H', i < n → Pv F2 i σ' H1 → Y i H1 x H' → g x σ' H' fun σ2 H2 => tu { D with nx := Pv F2 (i + 1), ct := Pv F2 (i + 1), bk := D.nx } σ2 H2) (hd : ∀ F2 σ' H', Pv F2 n σ' H' → D.nx σ' H') : tFor wi g tu D σ H :=
  G H eF _ fun J H2 F2 e2 eF2 e3 hf w => for_it w (Pv F2) (h0 H2 F2 e2 eF2 e3 hf) (hG F2) (hs F2) (hd F2)
theorem q_forN {wi : TI} {n : Nat} {Y : Nat → Hp → V → Hp → Prop} {g : TG} {tu tz : TS} {D : Ends} (G : GoesN wi σ F n Y) (eF : Ex F H) (Pv : Hp → Nat → L2.St → Hp → Prop)
    (h0 : ∀ H1 F2, Ex H H1 → Ex F F2 → Ex F2 H1 → (∀ b, H b ≠ none → F b = none → F2 b = none) → Pv F2 0 σ H1) (hG : ∀ F2 i σ' H', i ≤ n → Pv F2 i σ' H' → Ex F2 H')
    (hs : ∀ F2 i x σ' H1 H', i < n → Pv F2 i σ' H1 → Y i H1 x H' → g x σ' H' fun σ2 H2 => tu { D with nx := Pv F2 (i + 1), ct := Pv F2 (i + 1), bk := tz D } σ2 H2) (hd : ∀ F2 σ' H', Pv F2 n σ' H' → tz D σ' H') : tSeq (tFor wi g tu) tz D σ H :=
  s_forN (D := { D with nx := tz D }) G eF Pv h0 hG hs hd
/-! ### comprehensions -/
/-- the elements are plain values -/
theorem el_it {wi : TI} {n : Nat} {Y : Nat → Hp → V → Hp → Prop} {g : TG} {vs : List Nat} (G : GoesN wi σ F n Y) (hn : n ≤ 40000) (p : Nat → Bool) (v : Nat → V)
    (hg : ∀ i x H H', i < n → Ex F H → Y i H x H' → ∀ Q : L2.St → Hp → Prop, (∀ σ2 H2, Ex H H2 → wipe σ2 vs = wipe σ vs → EvT t σ2 F (p i) → (p i = true → Ev te σ2 F (v i)) → Q σ2 H2) → g x (wipe σ vs) H' Q) :
    EvL (tLc wi g t te vs) σ F (given n p v) := fun H0 e Q q => G H0 e _ fun J H1 F2 e1 eF2 e3 hf w => fun Dl hD =>
  lc_it w (fun i H' => H1 Dl = none ∧ Ex H1 H' ∧ H' Dl = some (.lst (given i p v))) ⟨hD, Ex.new hD, upd_same⟩ (fun i H' _ z => e3.trans z.2.1) (fun i x H H' hi z y => by
    refine hg i x H H' hi ((e.trans e1).trans z.2.1) y _ fun σ2 H2 e2 hw ht he => ⟨hw, ?_⟩
    have eF2 : Ex F H2 := ((e.trans e1).trans z.2.1).trans e2
    refine ht H2 eF2 _ fun H3 e3 => ?_
    cases hp : p i with
    | true =>
      show te σ2 H3 _
      refine he hp H3 (eF2.trans e3) _ fun H4 e4 => ⟨given i p v, e4 Dl _ (e3 Dl _ (e2 Dl _ z.2.2)), sz_lt (by have := given_len i p v; omega), z.1, Ex.mut (((z.2.1.trans e2).trans e3).trans e4) z.1, ?_⟩
      rw [given_yes hp]
      exact upd_same
    | false =>
      refine ⟨z.1, (z.2.1.trans e2).trans e3, ?_⟩
      rw [given_no hp]
      exact e3 Dl _ (e2 Dl _ z.2.2)) (fun H' z => q Dl H' (fresh_back e1 z.1) (e1.trans z.2.1) z.2.2)
theorem given_all {α : Type} (xs : List α) (d : α) (f : α → V) : given xs.length (fun _ => true) (fun i => f (xs.getD i d)) = xs.map f := by
  unfold given
  rw [List.filter_eq_self.mpr (fun _ _ => rfl)]
  refine List.ext_getElem (by simp) fun i h1 h2 => ?_
  simp at h1
  simp [List.getD_eq_getElem?_getD, h1]
theorem given_filter {α : Type} (d : α) (p : α → Bool) (f : α → V) : ∀ (n : Nat) (xs : List α), n ≤ xs.length → given n (fun i => p (xs.getD i d)) (fun i => f (xs.getD i d)) = ((xs.take n).filter p).map f
  | 0, xs, _ => by simp [given]
  | n + 1, xs, h => by
    have ih := given_filter d p f n xs (by omega)
    have hx : xs[n]? = some (xs.getD n d) := by
      rw [List.getD_eq_getElem?_getD, List.getElem?_eq_getElem (by omega)]
      rfl
    have ht : xs.take (n + 1) = xs.take n ++ [xs.getD n d] := by
      rw [List.take_add_one, hx]
      rfl
    rw [ht, List.filter_append, List.map_append, ← ih]
    cases hp : p (xs.getD n d) with
    | true =>
      rw [given_yes (f := fun i => p (xs.getD i d)) hp, List.filter_cons_of_pos hp] <;> rfl
    | false =>
      rw [given_no (f := fun i => p (xs.getD i d)) hp, List.filter_cons_of_neg (by rw [hp]; exact Bool.false_ne_true)]
      exact (List.append_nil _).symm
/-- [e for x in xs] -/
theorem el_map {α : Type} {wi : TI} {xs : List α} {c f : α → V} {j : Nat} {vs : List Nat} (d : α) (G : GoesN wi σ F xs.length (YAt (xs.map c))) (hn : xs.length ≤ 40000) (hw : ∀ x, wipe ((wipe σ vs).set j (some x)) vs = wipe σ vs)
    (he : ∀ a ∈ xs, Ev te ((wipe σ vs).set j (some (c a))) F (f a)) : EvL (tLc wi (gName j) tYes te vs) σ F (xs.map f) := by
  rw [← given_all xs d f]
  refine el_it G hn _ _ fun i x H H' hi e y Q q => ?_
  obtain ⟨rfl, hx⟩ := y
  have h1 : xs[i]? = some (xs.getD i d) := by
    rw [List.getD_eq_getElem?_getD, List.getElem?_eq_getElem hi]
    rfl
  rw [List.getElem?_map, h1] at hx
  have hx2 : c (xs.getD i d) = x := Option.some.inj hx
  subst hx2
  exact q _ H' (Ex.refl _) (hw _) (fun H1 _ _ z => z H1 (Ex.refl H1)) fun _ => he _ (List.mem_of_getElem? h1)
/-- [e for x in xs if t] -/
theorem el_filter {α : Type} {wi : TI} {xs : List α} {c f : α → V} {p : α → Bool} {j : Nat} {vs : List Nat} (d : α) (G : GoesN wi σ F xs.length (YAt (xs.map c))) (hn : xs.length ≤ 40000) (hw : ∀ x, wipe ((wipe σ vs).set j (some x)) vs = wipe σ vs)
    (ht : ∀ a ∈ xs, EvT t ((wipe σ vs).set j (some (c a))) F (p a)) (he : ∀ a ∈ xs, p a = true → Ev te ((wipe σ vs).set j (some (c a))) F (f a)) : EvL (tLc wi (gName j) t te vs) σ F ((xs.filter p).map f) := by
  have e := given_filter d p f xs.length xs (Nat.le_refl _)
  rw [List.take_length] at e
  rw [← e]
  refine el_it G hn _ _ fun i x H H' hi e y Q q => ?_
  obtain ⟨rfl, hx⟩ := y
  have h1 : xs[i]? = some (xs.getD i d) := by
    rw [List.getD_eq_getElem?_getD, List.getElem?_eq_getElem hi]
    rfl
  rw [List.getElem?_map, h1] at hx
  have hx2 : c (xs.getD i d) = x := Option.some.inj hx
  subst hx2
  exact q _ H' (Ex.refl _) (hw _) (ht _ (List.mem_of_getElem? h1)) fun hp => he _ (List.mem_of_getElem? h1) hp
/-- any([..]), all([..]) -/
theorem ev_any {bs : List Bool} (h : EvL te σ F (bs.map V.bl)) : Ev (tCB (rAny K) (tCons te tNil)) σ F (.bl (bs.any id)) := fun H1 e Q q =>
  h H1 e _ fun p H2 hp e2 h2 => ⟨p, bs, rfl, sq_of h2, q H2 e2⟩
theorem ev_all {bs : List Bool} (h : EvL te σ F (bs.map V.bl)) : Ev (tCB (rAll K) (tCons te tNil)) σ F (.bl (bs.all id)) := fun H1 e Q q =>
  h H1 e _ fun p H2 hp e2 h2 => ⟨p, bs, rfl, sq_of h2, q H2 e2⟩
end
end KP
set_option Elab.async false
set_option linter.all false
set_option maxRecDepth 100000
set_option maxHeartbeats 2000000
namespace KP
open PySem PySem.Spec PyProof.Rows L2
/-! ### what the top binds: Python's own names, and constants -/
structure Own (mg : Str → Option Value) : Prop where
  len : mg "len" = none
  ord : mg "ord" = none
  any : mg "any" = none
  all : mg "all" = none
  zip : mg "zip" = none
  enum : mg "enumerate" = none
  int : mg "int" = none
  str : mg "str" = none
  list : mg "list" = none
  tuple : mg "tuple" = none
  dict : mg "dict" = none
  range : mg "range" = none
  min : mg "min" = none
  sum : mg "sum" = none
  lineEnd : ∃ t, mg "LINE_END" = some (.int 10 t)
  blank : ∃ t, mg "BLANK" = some (.int 32 t)
  lastSign : ∃ t, mg "LAST_SIGN" = some (.int 126 t)
  mostSigns : ∃ t, mg "MOST_SIGNS" = some (.int 60 t)
  mostName : ∃ t, mg "MOST_NAME_SIGNS" = some (.int 8 t)
  mostCost : ∃ t, mg "MOST_COST_SIGNS" = some (.int 3 t)
  letters : ∃ t, mg "LETTERS" = some (.str "abcdefghijklmnopqrstuvwxyz" t)
  digits : ∃ t, mg "DIGITS" = some (.str "0123456789" t)
  other : ∃ t, mg "OTHER_SIGN" = some (.str "?" t)
section
variable {X : Cx}
theorem pe_gint {x : Str} {i : Int} {pos : Pos} (h : ∃ t, X.mg x = some (.int i t)) (hg : Gl X x) (hd : (x == ("__debug__" : Str)) = false := by decide) : PE X (.Name x pos) (tC (.int i)) := by
  obtain ⟨t, h⟩ := h
  exact pe_glob hg h ⟨t, rfl⟩ hd
theorem pe_gstr {x z : Str} {pos : Pos} (h : ∃ t, X.mg x = some (.str z t)) (hg : Gl X x) (hd : (x == ("__debug__" : Str)) = false := by decide) : PE X (.Name x pos) (tC (.str z)) := by
  obtain ⟨t, h⟩ := h
  exact pe_glob hg h ⟨t, rfl⟩ hd
end
open Evl
section
variable {K : PySem.W.Frag} {mg : Str → Option Value} {P : Program} {w : World} {base : Heap}
/-! ### sign_of -/
abbrev s_sign_of : Stmt := top 38
theorem sc_sign_of : FnScope ["byte"] ["byte"] (defScope s_sign_of) := ⟨rfl, rfl, rfl, by decide +kernel, rfl, by decide +kernel, by decide +kernel⟩
def sp_sign_of : Sp := fun vs H Q _ => ∃ b : Nat, vs = [.int b] ∧ ∀ H2, Ex H H2 → Q (.str (S [sign b])) H2
theorem has_sign_of {f : Addr} {fd : FuncData} (F : Fun K "sign_of" "sign_of" s_sign_of f fd) (O : Own mg) (g : mg "sign_of" = some (.ref f)) : Has P w K mg base 1 "sign_of" ["byte"] sp_sign_of := by
  refine ⟨f, fd, F.ok sc_sign_of (fun vs H Q E h => ?_) (fun cdv A outer s H vs Q E hr h => ?_), g, F.kp, F.binds fun _ _ _ _ _ _ us hl => match us, hl with | [_], _ => rfl⟩
  · obtain ⟨b, rfl, _⟩ := h
    rfl
  · obtain ⟨b, rfl, q⟩ := h
    refine ⟨_, pss_cons (ps_if (pt_cmpR op_eq (pv 0) (pe_gint O.blank rfl) (nomark _)) (pss_one (ps_ret pe_str)) pss_nil)
      (pss_cons (ps_if (pt_chain op_le op_le (pe_callB call_ord (by rfl) O.ord (by decide +kernel) (pa_cons pe_str pa_nil)) (pv 0) (pe_callB call_ord (by rfl) O.ord (by decide +kernel) (pa_cons pe_str pa_nil))) (pss_one (ps_ret (pe_ix ix_str (pe_gstr O.letters rfl) (pe_op op_sub (pv 0) (pe_callB call_ord (by rfl) O.ord (by decide +kernel) (pa_cons pe_str pa_nil))) (fun _ _ => rfl)))) pss_nil)
      (pss_cons (ps_if (pt_chain op_le op_le (pe_callB call_ord (by rfl) O.ord (by decide +kernel) (pa_cons pe_str pa_nil)) (pv 0) (pe_callB call_ord (by rfl) O.ord (by decide +kernel) (pa_cons pe_str pa_nil))) (pss_one (ps_ret (pe_ix ix_str (pe_gstr O.digits rfl) (pe_op op_sub (pv 0) (pe_callB call_ord (by rfl) O.ord (by decide +kernel) (pa_cons pe_str pa_nil))) (fun _ _ => rfl)))) pss_nil)
      (pss_one (ps_ret (pe_gstr O.other rfl))))), ?_⟩
    have hz : ∀ b : Nat, Ev (tVar 0) (start ["byte"] [.int (b : Int)]) H (.int b) := fun b => ev_var rfl
    refine q_when (et_eqI (ev_var rfl) ev_c) (fun c H1 e1 => s_ret ev_c fun H2 e2 => ?_) (fun c1 H1 e1 => ?_)
    · have e : b = 32 := by have := of_decide_eq_true c; omega
      have z := q H2 (e1.trans e2)
      rw [show sign b = 32 from if_pos e] at z
      exact z
    have n1 : ¬ b = 32 := by have := of_decide_eq_false c1; omega
    refine q_when (et_chain (f := fun i j => decide (i ≤ j)) (g := fun i j => decide (i ≤ j)) (ev_ord (c := 97) ev_c) (ev_var rfl) (ev_ord (c := 122) ev_c)) (fun c H2 e2 => ?_) (fun c2 H2 e2 => ?_)
    · rw [Bool.and_eq_true, decide_eq_true_iff, decide_eq_true_iff] at c
      have h2 : 97 ≤ b ∧ b ≤ 122 := by omega
      refine s_ret (v := .str (S [b])) (ev_op ev_c (ev_sub (ev_var rfl) (ev_ord (c := 97) ev_c)) (rv_ixS (by decide) ?_)) fun H3 e3 => ?_
      · have e : ((b : Int) - (97 : Nat)) = ((b - 97 : Nat) : Int) := by omega
        rw [e]
        refine atI_nat ?_
        have hb : b - 97 < 26 := by omega
        have key : ∀ n < 26, ("abcdefghijklmnopqrstuvwxyz" : Str).cps.toList[n]? = some (n + 97) := by decide +kernel
        rw [key _ hb]
        congr 1
        omega
      · have z := q H3 ((e1.trans e2).trans e3)
        rw [show sign b = b from (if_neg n1).trans (if_pos h2)] at z
        exact z
    have n2 : ¬ (97 ≤ b ∧ b ≤ 122) := fun h => by
      rw [Bool.and_eq_false_iff, decide_eq_false_iff_not, decide_eq_false_iff_not] at c2
      omega
    refine q_when (et_chain (f := fun i j => decide (i ≤ j)) (g := fun i j => decide (i ≤ j)) (ev_ord (c := 48) ev_c) (ev_var rfl) (ev_ord (c := 57) ev_c)) (fun c H3 e3 => ?_) (fun c3 H3 e3 => ?_)
    · rw [Bool.and_eq_true, decide_eq_true_iff, decide_eq_true_iff] at c
      have h2 : 48 ≤ b ∧ b ≤ 57 := by omega
      refine s_ret (v := .str (S [b])) (ev_op ev_c (ev_sub (ev_var rfl) (ev_ord (c := 48) ev_c)) (rv_ixS (by decide) ?_)) fun H4 e4 => ?_
      · have e : ((b : Int) - (48 : Nat)) = ((b - 48 : Nat) : Int) := by omega
        rw [e]
        refine atI_nat ?_
        have hb : b - 48 < 10 := by omega
        have key : ∀ n < 10, ("0123456789" : Str).cps.toList[n]? = some (n + 48) := by decide +kernel
        rw [key _ hb]
        congr 1
        omega
      · have z := q H4 (((e1.trans e2).trans e3).trans e4)
        rw [show sign b = b from (if_neg n1).trans ((if_neg n2).trans (if_pos h2))] at z
        exact z
    have n3 : ¬ (48 ≤ b ∧ b ≤ 57) := fun h => by
      rw [Bool.and_eq_false_iff, decide_eq_false_iff_not, decide_eq_false_iff_not] at c3
      omega
    refine s_ret ev_c fun H4 e4 => ?_
    have z := q H4 (((e1.trans e2).trans e3).trans e4)
    rw [show sign b = 63 from (if_neg n1).trans ((if_neg n2).trans (if_neg n3))] at z
    exact z
end
end KP
set_option Elab.async false
set_option linter.all false
set_option maxRecDepth 100000
set_option maxHeartbeats 2000000
namespace KP
open PySem PySem.Spec PyProof.Rows L2 Evl
section
variable {K : PySem.W.Frag} {mg : Str → Option Value} {P : Program} {w : World} {base : Heap}
/-! ### has_wrong_signs -/
abbrev s_has_wrong_signs : Stmt := top 37
theorem sc_has_wrong_signs : FnScope ["line", "byte"] ["line"] (defScope s_has_wrong_signs) := ⟨rfl, rfl, rfl, by decide +kernel, rfl, by decide +kernel, by decide +kernel⟩
def wrongSigns (l : List Nat) : Bool := decide (60 < l.length) || l.any fun b => decide (b < 32) || decide (126 < b)
/-- a list of bytes -/
abbrev bytesV (l : List Nat) : List V := l.map fun b : Nat => V.int (b : Int)
def sp_has_wrong_signs (K : PySem.W.Frag) : Sp := fun vs H Q _ => ∃ (a : Addr) (l : List Nat), vs = [.ref a] ∧ SqL K H a (bytesV l) ∧ l.length ≤ 1500 ∧ ∀ H2, Ex H H2 → Q (.bl (wrongSigns l)) H2
theorem has_has_wrong_signs {f : Addr} {fd : FuncData} (F : Fun K "has_wrong_signs" "has_wrong_signs" s_has_wrong_signs f fd) (O : Own mg) (g : mg "has_wrong_signs" = some (.ref f)) : Has P w K mg base 1 "has_wrong_signs" ["line"] (sp_has_wrong_signs K) := by
  refine ⟨f, fd, F.ok sc_has_wrong_signs (fun vs H Q E h => ?_) (fun cdv A outer s H vs Q E hr h => ?_), g, F.kp, F.binds fun _ _ _ _ _ _ us hl => match us, hl with | [_], _ => rfl⟩
  · obtain ⟨a, l, rfl, _⟩ := h
    rfl
  · obtain ⟨a, l, rfl, hl, hz, q⟩ := h
    refine ⟨_, (pss_cons (ps_if (pt_cmpR op_gt (pe_callB call_len_seq (by rfl) O.len (by decide +kernel) (pa_cons (pv 0) pa_nil)) (pe_gint O.mostSigns rfl) (nomark _)) (pss_one (ps_ret pe_bl)) pss_nil)
      (pss_one (ps_ret (pe_callB (cr_any rfl) (by rfl) O.any (by decide +kernel) (pa_cons (pe_lc (own := [("byte", 1)]) (g := gName 1) (tt := tYes) rfl sc_has_wrong_signs.nd (pi_list (pv 0)) (blkOk_by (N := ["line", "byte"]) (sc := defScope s_has_wrong_signs) (by decide +kernel)) (fun _ _ _ _ _ => (pg_name (i := 1) sc_has_wrong_signs.nd rfl (Or.inl rfl))) (fun _ _ _ _ _ => pts_nil) (fun _ _ _ _ _ => (pe_or (pe_cmpR op_lt (pv 1) (pe_gint O.blank rfl) (nomark _)) (pe_one (pe_cmpR op_gt (pv 1) (pe_gint O.lastSign rfl) (nomark _)))))) pa_nil))))), ?_⟩
    refine q_when (et_cmpI (f := fun i j => decide (j < i)) (ev_len (ev_var rfl) hl) ev_c) (fun c H1 e1 => s_ret ev_c fun H2 e2 => ?_) (fun c H1 e1 => ?_)
    · have h1 : 60 < l.length := by
        have := of_decide_eq_true c
        rw [List.length_map] at this
        omega
      have z := q H2 (e1.trans e2)
      unfold wrongSigns at z
      rw [decide_eq_true h1] at z
      exact z
    · have h1 : ¬ 60 < l.length := by
        have := of_decide_eq_false c
        rw [List.length_map] at this
        omega
      have hb := ev_any (K := K) (bs := l.map fun b => decide (b < 32) || decide (126 < b)) (σ := start ["line", "byte"] [.ref a]) (F := H) (te := tLc (iList K (tVar 0)) (gName 1) tYes (tOrV (tOp (rI0 fun i j => .bl (decide (i < j))) (tVar 1) (tC (.int 32))) (tOp (rI0 fun i j => .bl (decide (j < i))) (tVar 1) (tC (.int 126)))) [1]) (by
        have hgo := goes_list (σ := start ["line", "byte"] [.ref a]) (F := H) (K := K) (tl := tVar 0) (ev_var rfl) hl
        rw [List.length_map] at hgo
        rw [List.map_map]
        refine el_map 0 (c := fun b : Nat => V.int (b : Int)) hgo.new (by omega) (fun _ => rfl) fun b hb => ?_
        refine ev_is (ev_orV (ev_cmpI (f := fun i j => decide (i < j)) (ev_var rfl) ev_c) fun _ => ev_cmpI (f := fun i j => decide (j < i)) (ev_var rfl) ev_c) ?_
        show V.bl _ = V.bl _
        congr 1
        congr 1 <;> (rw [decide_eq_decide]; omega))
      refine s_ret (hb.mono e1) fun H2 e2 => ?_
      have z := q H2 (e1.trans e2)
      unfold wrongSigns at z
      rw [decide_eq_false h1, Bool.false_or] at z
      rw [List.any_map]
      exact z
/-! ### is_name -/
theorem letters_codes : ("abcdefghijklmnopqrstuvwxyz" : Str).cps.toList = List.range' 97 26 := by decide +kernel
theorem digits_codes : ("0123456789" : Str).cps.toList = List.range' 48 10 := by decide +kernel
theorem in_letters (c : Nat) : decide (c ∈ ("abcdefghijklmnopqrstuvwxyz" : Str).cps.toList) = Pn16.isLetter c := by
  rw [letters_codes]
  unfold Pn16.isLetter
  rw [← Bool.decide_and, decide_eq_decide, List.mem_range'_1]
  omega
theorem in_digits (c : Nat) : decide (c ∈ ("0123456789" : Str).cps.toList) = Pn16.isDigit c := by
  rw [digits_codes]
  unfold Pn16.isDigit
  rw [← Bool.decide_and, decide_eq_decide, List.mem_range'_1]
  omega
theorem S_len (l : List Nat) : (S l).length = l.length := by simp [S, Str.length]
abbrev s_is_name : Stmt := top 40
theorem sc_is_name : FnScope ["word", "sign"] ["word"] (defScope s_is_name) := ⟨rfl, rfl, rfl, by decide +kernel, rfl, by decide +kernel, by decide +kernel⟩
def sp_is_name : Sp := fun vs H Q _ => ∃ (l : List Nat), vs = [.str (S l)] ∧ l ≠ [] ∧ l.length ≤ 1500 ∧ ∀ H2, Ex H H2 → Q (.bl (Pn16.isName l)) H2
theorem ev_first {l : List Nat} {c : Nat} {r : List Nat} {σ : L2.St} {F : Hp} {ta : TE} (e : l = c :: r) (hz : l.length ≤ 1500) (ha : Ev ta σ F (.str (S l))) : Ev (tOp rIxS ta (tC (.int 0))) σ F (.str (S [c])) := by
  refine ev_op ha ev_c (rv_ixS ?_ ?_)
  · rw [S_len]
    omega
  · refine atI_nat (j := 0) ?_
    rw [e]
    rfl
theorem has_is_name {f : Addr} {fd : FuncData} (F : Fun K "is_name" "is_name" s_is_name f fd) (O : Own mg) (g : mg "is_name" = some (.ref f)) : Has P w K mg base 1 "is_name" ["word"] sp_is_name := by
  refine ⟨f, fd, F.ok sc_is_name (fun vs H Q E h => ?_) (fun cdv A outer s H vs Q E hr h => ?_), g, F.kp, F.binds fun _ _ _ _ _ _ us hl => match us, hl with | [_], _ => rfl⟩
  · obtain ⟨l, rfl, _⟩ := h
    rfl
  · obtain ⟨l, rfl, hne, hz, q⟩ := h
    refine ⟨_, (pss_cons (ps_if (PW.pt (pw_or (pt_cmpR op_gt (pe_callB call_len_str (by rfl) O.len (by decide +kernel) (pa_cons (pv 0) pa_nil)) (pe_gint O.mostName rfl) (nomark _)) (pw_or1 (pt_cmpR op_notIn_sign (pe_ix ix_str (pv 0) pe_int (fun _ _ => rfl)) (pe_gstr O.letters rfl) (by rfl))))) (pss_one (ps_ret pe_bl)) pss_nil)
      (pss_one (ps_ret (pe_callB (cr_all rfl) (by rfl) O.all (by decide +kernel) (pa_cons (pe_lc (own := [("sign", 1)]) (g := gName 1) (tt := tYes) rfl sc_is_name.nd (pi_str (pv 0)) (blkOk_by (N := ["word", "sign"]) (sc := defScope s_is_name) (by decide +kernel)) (fun _ _ _ _ _ => (pg_name (i := 1) sc_is_name.nd rfl (Or.inl rfl))) (fun _ _ _ _ _ => pts_nil) (fun _ _ _ _ _ => (pe_or (pe_cmpR op_in_sign (pv 1) (pe_gstr O.letters rfl) (by rfl)) (pe_one (pe_cmpR op_in_sign (pv 1) (pe_gstr O.digits rfl) (by rfl)))))) pa_nil))))), ?_⟩
    obtain ⟨c, r, el⟩ : ∃ c r, l = c :: r := by
      cases l with
      | nil => exact absurd rfl hne
      | cons c r => exact ⟨c, r, rfl⟩
    have hv : ∀ H1, Ev (tVar 0) (start ["word", "sign"] [.str (S l)]) H1 (.str (S l)) := fun H1 => ev_var rfl
    have isn : Pn16.isName l = (!(decide (8 < l.length) || !Pn16.isLetter c) && l.all fun c => Pn16.isLetter c || Pn16.isDigit c) := by
      subst el
      show (Pn16.isLetter c && (decide (r.length ≤ 7) && r.all fun c => Pn16.isLetter c || Pn16.isDigit c)) = (!(decide (8 < (c :: r).length) || !Pn16.isLetter c) && ((Pn16.isLetter c || Pn16.isDigit c) && r.all fun c => Pn16.isLetter c || Pn16.isDigit c))
      have e1 : decide (r.length ≤ 7) = !decide (8 < (c :: r).length) := by
        rw [← decide_not, decide_eq_decide, List.length_cons]
        omega
      rw [e1]
      cases Pn16.isLetter c <;> cases decide (8 < (c :: r).length) <;> simp
    refine q_when (et_or (et_cmpI (f := fun i j => decide (j < i)) (ev_lenS (hv H) (by rw [S_len]; omega)) ev_c) fun _ => et_test (ev_notInSign (ev_first el hz (hv H)) ev_c)) (fun c1 H1 e1 => s_ret ev_c fun H2 e2 => ?_) (fun c1 H1 e1 => ?_)
    · have z := q H2 (e1.trans e2)
      rw [isn] at z
      rw [in_letters, S_len] at c1
      have c2 : (decide (8 < l.length) || !Pn16.isLetter c) = true := by
        rw [← c1]
        congr 1
        rw [decide_eq_decide]
        omega
      rw [c2] at z
      exact z
    · refine s_ret (ev_all (K := K) (bs := l.map fun c => Pn16.isLetter c || Pn16.isDigit c) ?_) fun H2 e2 => ?_
      · rw [List.map_map]
        have hgo := goes_str (l := l) (σ := start ["word", "sign"] [.str (S l)]) (F := H1) (tl := tVar 0) (hv H1)
        refine el_map 0 (c := fun b : Nat => V.str (S [b])) hgo.new (by omega) (fun _ => rfl) fun b hb => ?_
        refine ev_is (ev_orV (ev_inSign (c := b) (ev_var rfl) ev_c) fun _ => ev_inSign (c := b) (ev_var rfl) ev_c) ?_
        rw [in_letters, in_digits] <;> rfl
      · have z := q H2 (e1.trans e2)
        rw [isn] at z
        rw [in_letters, S_len] at c1
        have c2 : (decide (8 < l.length) || !Pn16.isLetter c) = false := by
          rw [← c1]
          congr 1
          rw [decide_eq_decide]
          omega
        rw [c2] at z
        rw [List.all_map]
        exact z
/-! ### is_cost -/
abbrev s_is_cost : Stmt := top 41
theorem sc_is_cost : FnScope ["word", "sign"] ["word"] (defScope s_is_cost) := ⟨rfl, rfl, rfl, by decide +kernel, rfl, by decide +kernel, by decide +kernel⟩
def sp_is_cost : Sp := fun vs H Q _ => ∃ (l : List Nat), vs = [.str (S l)] ∧ l ≠ [] ∧ l.length ≤ 1500 ∧ ∀ H2, Ex H H2 → Q (.bl (Pn16.cost? l).isSome) H2
theorem S_inj {a b : List Nat} (same : S a = S b) : a = b := congrArg (fun z : Str => z.cps.toList) same
theorem S_eq {a b : List Nat} : decide (S a = S b) = decide (a = b) := by
  rw [decide_eq_decide]
  exact ⟨S_inj, fun h => by rw [h]⟩
theorem has_is_cost {f : Addr} {fd : FuncData} (F : Fun K "is_cost" "is_cost" s_is_cost f fd) (O : Own mg) (g : mg "is_cost" = some (.ref f)) : Has P w K mg base 1 "is_cost" ["word"] sp_is_cost := by
  refine ⟨f, fd, F.ok sc_is_cost (fun vs H Q E h => ?_) (fun cdv A outer s H vs Q E hr h => ?_), g, F.kp, F.binds fun _ _ _ _ _ _ us hl => match us, hl with | [_], _ => rfl⟩
  · obtain ⟨l, rfl, _⟩ := h
    rfl
  · obtain ⟨l, rfl, hne, hz, q⟩ := h
    refine ⟨_, (pss_cons (ps_if (PW.pt (pw_or (pt_cmpR op_gt (pe_callB call_len_str (by rfl) O.len (by decide +kernel) (pa_cons (pv 0) pa_nil)) (pe_gint O.mostCost rfl) (nomark _)) (pw_or1 (pt_cmpR op_eq (pe_ix ix_str (pv 0) pe_int (fun _ _ => rfl)) pe_str (nomark _))))) (pss_one (ps_ret pe_bl)) pss_nil)
      (pss_one (ps_ret (pe_callB (cr_all rfl) (by rfl) O.all (by decide +kernel) (pa_cons (pe_lc (own := [("sign", 1)]) (g := gName 1) (tt := tYes) rfl sc_is_cost.nd (pi_str (pv 0)) (blkOk_by (N := ["word", "sign"]) (sc := defScope s_is_cost) (by decide +kernel)) (fun _ _ _ _ _ => (pg_name (i := 1) sc_is_cost.nd rfl (Or.inl rfl))) (fun _ _ _ _ _ => pts_nil) (fun _ _ _ _ _ => (pe_cmpR op_in_sign (pv 1) (pe_gstr O.digits rfl) (by rfl)))) pa_nil))))), ?_⟩
    obtain ⟨c, r, el⟩ : ∃ c r, l = c :: r := by
      cases l with
      | nil => exact absurd rfl hne
      | cons c r => exact ⟨c, r, rfl⟩
    have hv : ∀ H1, Ev (tVar 0) (start ["word", "sign"] [.str (S l)]) H1 (.str (S l)) := fun H1 => ev_var rfl
    have isn : (Pn16.cost? l).isSome = (!(decide (3 < l.length) || decide (c = 48)) && l.all Pn16.isDigit) := by
      unfold Pn16.cost?
      by_cases h : l ≠ [] ∧ l.length ≤ 3 ∧ l.all Pn16.isDigit = true ∧ l.headD 48 ≠ 48
      · rw [if_pos h]
        obtain ⟨_, h2, h3, h4⟩ := h
        rw [decide_eq_false (by omega : ¬ 3 < l.length), h3]
        rw [el] at h4
        have h5 : c ≠ 48 := h4
        rw [decide_eq_false h5]
        rfl
      · rw [if_neg h]
        show false = _
        by_cases h2 : 3 < l.length
        · rw [decide_eq_true h2]
          rfl
        · rw [decide_eq_false h2]
          by_cases h4 : c = 48
          · rw [decide_eq_true h4]
            rfl
          · rw [decide_eq_false h4]
            cases h3 : l.all Pn16.isDigit with
            | false => rfl
            | true =>
              refine absurd ⟨hne, by omega, h3, ?_⟩ h
              rw [el]
              exact h4
    have e48 : ("0" : Str) = S [48] := by decide +kernel
    refine q_when (et_or (et_cmpI (f := fun i j => decide (j < i)) (ev_lenS (hv H) (by rw [S_len]; omega)) ev_c) fun _ => et_eqS (ev_first el hz (hv H)) ev_c) (fun c1 H1 e1 => s_ret ev_c fun H2 e2 => ?_) (fun c1 H1 e1 => ?_)
    · have z := q H2 (e1.trans e2)
      rw [isn] at z
      rw [e48, S_eq, S_len] at c1
      have c2 : (decide (3 < l.length) || decide (c = 48)) = true := by
        rw [← c1]
        congr 1
        · rw [decide_eq_decide]
          omega
        · rw [decide_eq_decide]
          simp
      rw [c2] at z
      exact z
    · refine s_ret (ev_all (K := K) (bs := l.map Pn16.isDigit) ?_) fun H2 e2 => ?_
      · rw [List.map_map]
        have hgo := goes_str (l := l) (σ := start ["word", "sign"] [.str (S l)]) (F := H1) (tl := tVar 0) (hv H1)
        refine el_map 0 (c := fun b : Nat => V.str (S [b])) hgo.new (by omega) (fun _ => rfl) fun b hb => ?_
        refine ev_is (ev_inSign (c := b) (ev_var rfl) ev_c) ?_
        rw [in_digits] <;> rfl
      · have z := q H2 (e1.trans e2)
        rw [isn] at z
        rw [e48, S_eq, S_len] at c1
        have c2 : (decide (3 < l.length) || decide (c = 48)) = false := by
          rw [← c1]
          congr 1
          · rw [decide_eq_decide]
            omega
          · rw [decide_eq_decide]
            simp
        rw [c2] at z
        rw [List.all_map]
        exact z
end
end KP
set_option Elab.async false
set_option linter.all false
set_option maxRecDepth 100000
set_option maxHeartbeats 2000000
namespace KP
open PySem PySem.Spec PyProof.Rows L2 Evl
/-! ### lines joined -/
theorem joinL_line : ∀ (ws : List (List Nat)), ws ≠ [] → TL.joinL [32] ws ++ [10] = Pn16.line ws
  | [], h => absurd rfl h
  | [w], _ => by
    show w ++ [10] = w ++ [] ++ [10]
    rw [List.append_nil]
  | w :: v :: r, _ => by
    have ih := joinL_line (v :: r) (by simp)
    show w ++ ([32] ++ TL.joinL [32] (v :: r)) ++ [10] = w ++ ((v :: r).flatMap fun v => 32 :: v) ++ [10]
    have ih2 : TL.joinL [32] (v :: r) ++ [10] = v ++ (r.flatMap fun v => 32 :: v) ++ [10] := ih
    rw [List.append_assoc, List.append_assoc, ih2, List.flatMap_cons]
    simp
theorem joinL_len : ∀ (ws : List (List Nat)), (TL.joinL [32] ws).length ≤ (ws.map (·.length)).sum + ws.length
  | [] => by simp [TL.joinL]
  | [w] => by simp [TL.joinL]
  | w :: v :: r => by
    have ih := joinL_len (v :: r)
    show (w ++ ([32] ++ TL.joinL [32] (v :: r))).length ≤ _
    rw [List.length_append, List.length_append]
    simp only [List.map_cons, List.sum_cons, List.length_cons, List.length_nil] at ih ⊢
    omega
section
variable {K : PySem.W.Frag} {mg : Str → Option Value} {P : Program} {w : World} {base : Heap}
/-- texts as values -/
abbrev txts (ws : List (List Nat)) : List V := ws.map fun l => V.str (S l)
abbrev s_line_bytes : Stmt := top 42
theorem sc_line_bytes : FnScope ["words", "sign"] ["words"] (defScope s_line_bytes) := ⟨rfl, rfl, rfl, by decide +kernel, rfl, by decide +kernel, by decide +kernel⟩
def sp_line_bytes (K : PySem.W.Frag) : Sp := fun vs H Q _ => ∃ (a : Addr) (ws : List (List Nat)), vs = [.ref a] ∧ SqL K H a (txts ws) ∧ ws ≠ [] ∧ (ws.map (·.length)).sum + ws.length ≤ 2000 ∧
  ∀ p H2, H p = none → Ex H H2 → H2 p = some (.lst (bytesV (Pn16.line ws))) → Q (.ref p) H2
theorem has_line_bytes {f : Addr} {fd : FuncData} (F : Fun K "line_bytes" "line_bytes" s_line_bytes f fd) (O : Own mg) (g : mg "line_bytes" = some (.ref f)) : Has P w K mg base 1 "line_bytes" ["words"] (sp_line_bytes K) := by
  refine ⟨f, fd, F.ok sc_line_bytes (fun vs H Q E h => ?_) (fun cdv A outer s H vs Q E hr h => ?_), g, F.kp, F.binds fun _ _ _ _ _ _ us hl => match us, hl with | [_], _ => rfl⟩
  · obtain ⟨a, ws, rfl, _⟩ := h
    rfl
  · obtain ⟨a, ws, rfl, hl, hne, hz, q⟩ := h
    refine ⟨_, (pss_one (ps_ret (pe_lc (own := [("sign", 1)]) (g := gName 1) (tt := tYes) rfl sc_line_bytes.nd (pi_str (pe_op op_add_str (pe_join pe_str (pv 0)) pe_str)) (blkOk_by (N := ["words", "sign"]) (sc := defScope s_line_bytes) (by decide +kernel)) (fun _ _ _ _ _ => (pg_name (i := 1) sc_line_bytes.nd rfl (Or.inl rfl))) (fun _ _ _ _ _ => pts_nil) (fun _ _ _ _ _ => (pe_callB call_ord (by rfl) O.ord (by decide +kernel) (pa_cons (pv 1) pa_nil)))))), ?_⟩
    have e32 : (" " : Str) = S [32] := by decide +kernel
    have e10 : ("\n" : Str) = S [10] := by decide +kernel
    have hjl := joinL_len ws
    have hlen : (Pn16.line ws).length ≤ 2001 := by
      rw [← joinL_line ws hne, List.length_append]
      simp
      omega
    refine s_retL (xs := bytesV (Pn16.line ws)) ?_ fun p H1 hp e1 h1 => q p H1 hp e1 h1
    have hm : ws.map (fun l => V.str (S l)) = (ws.map S).map V.str := by rw [List.map_map]; rfl
    refine el_map 0 (xs := Pn16.line ws) (c := fun b : Nat => V.str (S [b])) (goes_str (l := Pn16.line ws) (ev_op (x := .str (S (TL.joinL [32] ws))) (y := .str (S [10])) ?_ ?_ ?_)).new (by omega) (fun _ => rfl) fun b hb => ?_
    · intro H1 e1 Q1 q1
      rw [e32]
      refine ⟨⟨S [32], rfl⟩, .ref a, rfl, S [32], a, ws.map S, rfl, rfl, .inl ?_, ?_, ?_⟩
      · rw [← hm]
        exact ex_l e1 hl
      · rw [List.map_map, List.length_map]
        have : (ws.map ((fun x : Str => x.length) ∘ S)) = ws.map (·.length) := List.map_congr_left fun x _ => S_len x
        rw [this, S_len]
        simp
        omega
      · have e := SX.join_S [32] ws
        have e' : Txt.join (S [32]) (ws.map S) = S (TL.joinL [32] ws) := e
        rw [e']
        exact q1 H1 (Ex.refl H1)
    · rw [e10]
      exact ev_c
    · intro H1 e1 Q1 q1
      refine ⟨S (TL.joinL [32] ws), S [10], rfl, rfl, ?_, ?_⟩
      · rw [S_len, S_len]
        exact sz_of (by simp; omega)
      · have e : S (TL.joinL [32] ws) ++ S [10] = S (Pn16.line ws) := by
          rw [← joinL_line ws hne]
          exact SX.S_cat _ _
        rw [e]
        exact q1 H1 (Ex.refl H1)
    · exact ev_ord (c := b) (ev_var rfl)
/-! ### cut_words -/
theorem spl_cut : ∀ (l acc : List Nat), TL.spl [32] 0 acc l = (match Pn16.cut 32 l with | [] => [acc] | w :: r => (acc ++ w) :: r)
  | [], acc => by
    show [acc] = [acc ++ []]
    rw [List.append_nil]
  | c :: r, acc => by
    by_cases h : c = 32
    · subst h
      rw [TL.spl_hit (by unfold TL.pre; simp)]
      show acc :: TL.spl [32] 0 [] r = _
      rw [spl_cut r []]
      have e : Pn16.cut 32 (32 :: r) = [] :: Pn16.cut 32 r := if_pos rfl
      rw [e]
      show _ = (acc ++ []) :: Pn16.cut 32 r
      rw [List.append_nil]
      congr 1
      cases hc : Pn16.cut 32 r with
      | nil =>
        cases r with
        | nil => cases hc
        | cons d r =>
          by_cases hd : d = 32
          · rw [show Pn16.cut 32 (d :: r) = [] :: Pn16.cut 32 r from if_pos hd] at hc
            cases hc
          · rw [show Pn16.cut 32 (d :: r) = (match Pn16.cut 32 r with | [] => [[d]] | w :: l => (d :: w) :: l) from if_neg hd] at hc
            split at hc <;> cases hc
      | cons w l => rfl
    · have hp : TL.pre [32] (c :: r) = false := TL.pre_of_head _ _ (fun e => h e)
      rw [TL.spl_miss hp, spl_cut r (acc ++ [c])]
      have e : Pn16.cut 32 (c :: r) = (match Pn16.cut 32 r with | [] => [[c]] | w :: l => (c :: w) :: l) := if_neg h
      rw [e]
      cases Pn16.cut 32 r with
      | nil => rfl
      | cons w l =>
        show (acc ++ [c] ++ w) :: l = (acc ++ c :: w) :: l
        rw [List.append_assoc] <;> rfl
theorem cut_ne (c : Nat) : ∀ l, Pn16.cut c l ≠ []
  | [] => by simp [Pn16.cut]
  | b :: r => by
    unfold Pn16.cut
    split
    · simp
    · split <;> simp
theorem spl_is (l : List Nat) : TL.spl [32] 0 [] l = Pn16.cut 32 l := by
  rw [spl_cut]
  cases h : Pn16.cut 32 l with
  | nil => exact absurd h (cut_ne 32 l)
  | cons w r => rfl
theorem cut_map {c : Nat} {f : Nat → Nat} (hf : ∀ b, f b = c ↔ b = c) : ∀ l, Pn16.cut c (l.map f) = (Pn16.cut c l).map (·.map f)
  | [] => rfl
  | b :: r => by
    have ih := cut_map hf r
    show Pn16.cut c (f b :: r.map f) = (Pn16.cut c (b :: r)).map (·.map f)
    by_cases h : b = c
    · rw [show Pn16.cut c (f b :: r.map f) = [] :: Pn16.cut c (r.map f) from if_pos ((hf b).mpr h), show Pn16.cut c (b :: r) = [] :: Pn16.cut c r from if_pos h, ih]
      rfl
    · rw [show Pn16.cut c (f b :: r.map f) = (match Pn16.cut c (r.map f) with | [] => [[f b]] | w :: l => (f b :: w) :: l) from if_neg (fun e => h ((hf b).mp e)), show Pn16.cut c (b :: r) = (match Pn16.cut c r with | [] => [[b]] | w :: l => (b :: w) :: l) from if_neg h, ih]
      cases Pn16.cut c r with
      | nil => rfl
      | cons w l => rfl
theorem sign_blank (b : Nat) : sign b = 32 ↔ b = 32 := by
  unfold sign
  constructor
  · intro h
    split at h
    · assumption
    · split at h
      · omega
      · split at h <;> omega
  · intro h
    rw [if_pos h]
theorem cut_len (c : Nat) : ∀ l : List Nat, (Pn16.cut c l).length ≤ l.length + 1
  | [] => by simp [Pn16.cut]
  | b :: r => by
    have ih := cut_len c r
    unfold Pn16.cut
    split
    · simp only [List.length_cons]; omega
    · split <;> simp_all
      omega
theorem cut_sum (c : Nat) : ∀ l : List Nat, ∀ w ∈ Pn16.cut c l, w.length ≤ l.length
  | [], w, h => by
    have : w = [] := by simpa [Pn16.cut] using h
    rw [this]
    exact Nat.le_refl _
  | b :: r, w, h => by
    have ih := cut_sum c r
    by_cases hb : b = c
    · rw [show Pn16.cut c (b :: r) = [] :: Pn16.cut c r from if_pos hb] at h
      rcases List.mem_cons.mp h with e | h
      · rw [e]; simp
      · have := ih w h
        simp only [List.length_cons]; omega
    · rw [show Pn16.cut c (b :: r) = (match Pn16.cut c r with | [] => [[b]] | w :: l => (b :: w) :: l) from if_neg hb] at h
      cases hc : Pn16.cut c r with
      | nil => exact absurd hc (cut_ne c r)
      | cons v l =>
        rw [hc] at h ih
        rcases List.mem_cons.mp h with e | h
        · rw [e]
          have := ih v (List.mem_cons_self ..)
          simp only [List.length_cons]; omega
        · have := ih w (List.mem_cons_of_mem _ h)
          simp only [List.length_cons]; omega
theorem words_map (l : List Nat) : Pn16.words (l.map sign) = (Pn16.words l).map clean := by
  unfold Pn16.words
  rw [cut_map sign_blank, List.filter_map]
  congr 1
  refine List.filter_congr fun w _ => ?_
  show ((clean w) != []) = (w != [])
  cases w with
  | nil => rfl
  | cons a r => rfl
abbrev s_cut_words : Stmt := top 39
theorem sc_cut_words : FnScope ["line", "signs", "byte", "word"] ["line"] (defScope s_cut_words) := ⟨rfl, rfl, rfl, by decide +kernel, rfl, by decide +kernel, by decide +kernel⟩
def sp_cut_words (K : PySem.W.Frag) : Sp := fun vs H Q _ => ∃ (a : Addr) (l : List Nat), vs = [.ref a] ∧ SqL K H a (bytesV l) ∧ l.length ≤ 1500 ∧
  ∀ p H2, H p = none → Ex H H2 → H2 p = some (.lst (txts ((Pn16.words l).map clean))) → Q (.ref p) H2
theorem joinL_nil : ∀ (l : List Nat), TL.joinL [] (l.map fun b => [b]) = l
  | [] => rfl
  | [b] => rfl
  | b :: c :: r => by
    show [b] ++ ([] ++ TL.joinL [] ((c :: r).map fun b => [b])) = b :: c :: r
    rw [joinL_nil (c :: r)]
    rfl
theorem has_cut_words {f : Addr} {fd : FuncData} (F : Fun K "cut_words" "cut_words" s_cut_words f fd) (O : Own mg) (g : mg "cut_words" = some (.ref f)) (h_sign_of : Has P w K mg base 1 "sign_of" ["byte"] sp_sign_of) : Has P w K mg base 2 "cut_words" ["line"] (sp_cut_words K) := by
  refine ⟨f, fd, F.ok sc_cut_words (fun vs H Q E h => ?_) (fun cdv A outer s H vs Q E hr h => ?_), g, F.kp, F.binds fun _ _ _ _ _ _ us hl => match us, hl with | [_], _ => rfl⟩
  · obtain ⟨a, ws, rfl, _⟩ := h
    rfl
  · obtain ⟨a, l, rfl, hl, hz, q⟩ := h
    refine ⟨_, (pss_cons (ps_set (i := 1) sc_cut_words.nd rfl (Or.inl rfl) (pe_join pe_str (pe_lc (own := [("byte", 2)]) (g := gName 2) (tt := tYes) rfl sc_cut_words.nd (pi_list (pv 0)) (blkOk_by (N := ["line", "signs", "byte", "word"]) (sc := defScope s_cut_words) (by decide +kernel)) (fun _ _ _ _ _ => (pg_name (i := 2) sc_cut_words.nd rfl (Or.inl rfl))) (fun _ _ _ _ _ => pts_nil) (fun _ _ _ _ _ => (pe_own h_sign_of (hr.mono (by decide)) rfl (pa_cons (pv 2) pa_nil))))))
      (pss_one (ps_ret (pe_lc (own := [("word", 3)]) (g := gName 3) rfl sc_cut_words.nd (pi_list (pe_split (pv 1) pe_str)) (blkOk_by (N := ["line", "signs", "byte", "word"]) (sc := defScope s_cut_words) (by decide +kernel)) (fun _ _ _ _ _ => (pg_name (i := 3) sc_cut_words.nd rfl (Or.inl rfl))) (fun _ _ _ _ _ => (pts_one (pt_cmpR op_ne (pv 3) pe_str (nomark _)))) (fun _ _ _ _ _ => (pv 3)))))), ?_⟩
    have e0 : ("" : Str) = S [] := by decide +kernel
    have e32 : (" " : Str) = S [32] := by decide +kernel
    have hgo := goes_list (σ := start ["line", "signs", "byte", "word"] [.ref a]) (F := H) (K := K) (tl := tVar 0) (ev_var rfl) hl
    rw [List.length_map] at hgo
    refine q_asg (v := .str (S (l.map sign))) ?_ fun H1 e1 => ?_
    · intro H1 e1 Q1 q1
      refine ⟨⟨_, rfl⟩, ?_⟩
      refine el_map (xs := l) (f := fun b => V.str (S [sign b])) 0 (c := fun b : Nat => V.int (b : Int)) hgo.new (by omega) (fun _ => rfl) (fun b hb => ?_) H1 e1 _ fun p H2 hp e2 h2 => ?_
      · exact ev_call (ea_cons (ev_var rfl) ea_nil) fun H3 e3 Q3 q3 => ⟨b, rfl, q3⟩
      · refine ⟨S [], p, (l.map fun b => [sign b]).map S, by rw [e0], rfl, .inl (sq_of ?_), ?_, ?_⟩
        · rw [h2, List.map_map, List.map_map] <;> rfl
        · have : (((l.map fun b => [sign b]).map S).map fun x : Str => x.length) = l.map fun _ => 1 := by
            rw [List.map_map, List.map_map]
            exact List.map_congr_left fun x _ => S_len _
          rw [this, S_len]
          have h3 : (l.map fun _ => 1).sum = l.length := by
            clear hl hgo h2 this hz q q1
            induction l with
            | nil => rfl
            | cons x r ih =>
              rw [List.map_cons, List.sum_cons, ih, List.length_cons]
              omega
          rw [h3]
          simp
          omega
        · have e := SX.join_S [] (l.map fun b => [sign b])
          have e' : Txt.join (S []) ((l.map fun b => [sign b]).map S) = S (TL.joinL [] (l.map fun b => [sign b])) := e
          have e'' : TL.joinL [] (l.map fun b => [sign b]) = l.map sign := by
            have := joinL_nil (l.map sign)
            rw [List.map_map] at this
            exact this
          rw [e', e'']
          exact q1 H2 e2
    · have hmap : ∀ b ∈ Pn16.cut 32 (l.map sign), b.length ≤ 1500 := fun b hb => by
        have := cut_sum 32 (l.map sign) b hb
        rw [List.length_map] at this
        omega
      have hspl : Txt.split (S (l.map sign)) (S [32]) = (Pn16.cut 32 (l.map sign)).map S := by
        have e := SX.split_S (a := l.map sign) (b := [32]) (by simp) (by decide)
        rw [spl_is] at e
        exact e
      have hcl := cut_len 32 (l.map sign)
      rw [List.length_map] at hcl
      refine s_retL (xs := txts ((Pn16.words l).map clean)) ?_ fun p H2 hp e2 h2 => q p H2 (fresh_back e1 hp) (e1.trans e2) h2
      have hw : txts ((Pn16.words l).map clean) = ((Pn16.cut 32 (l.map sign)).filter fun w => w != []).map fun w => V.str (S w) := by
        rw [← words_map]
        rfl
      rw [hw]
      have hsrc : EvL (tM1 (fun x xs H Q => ∃ a b, x = V.str a ∧ xs = [V.str b] ∧ (b.length == 0) = false ∧ a.length + 2 ≤ sizeLine ∧ rNewStrs (Txt.split a b) H Q) (tVar 1) (tC (V.str " "))) ((start ["line", "signs", "byte", "word"] [.ref a]).set 1 (some (.str (S (l.map sign))))) H1 (txts (Pn16.cut 32 (l.map sign))) := fun H2 e2 Q2 q2 => by
        refine ⟨_, rfl, ⟨_, rfl⟩, S (l.map sign), S [32], rfl, by rw [e32], rfl, ?_, ?_⟩
        · rw [S_len, List.length_map]
          exact sz_of (by omega)
        · intro p hp
          refine q2 p _ hp (Ex.new hp) ?_
          rw [upd_same, hspl, List.map_map] <;> rfl
      have hgo2 := goes_new (K := K) hsrc
      rw [List.length_map] at hgo2
      refine el_filter (c := fun w => V.str (S w)) [] hgo2 (by omega) (fun _ => rfl) (fun b hb => ?_) (fun b hb _ => ev_var rfl)
      refine et_is (et_neS (ev_var rfl) ev_c) ?_
      rw [e0, S_eq]
      cases b with
      | nil => rfl
      | cons x r => rfl
/-! ### cut_lines -/
abbrev s_cut_lines : Stmt := top 36
theorem sc_cut_lines : FnScope ["row", "lines", "line", "byte"] ["row"] (defScope s_cut_lines) := ⟨rfl, rfl, rfl, by decide +kernel, rfl, by decide +kernel, by decide +kernel⟩
/-- what the loop has: lines that are ended, the line that is open -/
def cutStep (s : List (List Nat) × List Nat) (b : Nat) : List (List Nat) × List Nat := if b = 10 then (s.1 ++ [s.2], []) else (s.1, s.2 ++ [b])
def cutEnd (s : List (List Nat) × List Nat) : List (List Nat) := if s.2 = [] then s.1 else s.1 ++ [s.2]
theorem cut_fold : ∀ (t : List Nat) (s : List (List Nat) × List Nat), cutEnd (t.foldl cutStep s) = s.1 ++ (match Pn16.cut 10 t with | [] => [] | w :: r => if ((s.2 ++ w) :: r).getLast?.getD [] = [] then ((s.2 ++ w) :: r).dropLast else (s.2 ++ w) :: r)
  | [], s => by
    show cutEnd s = s.1 ++ (if ([s.2 ++ []] : List (List Nat)).getLast?.getD [] = [] then [s.2 ++ []].dropLast else [s.2 ++ []])
    rw [List.append_nil]
    unfold cutEnd
    by_cases h : s.2 = []
    · rw [if_pos h, if_pos (by simpa using h)]
      simp
    · rw [if_neg h, if_neg (by simpa using h)]
  | b :: r, s => by
    show cutEnd (r.foldl cutStep (cutStep s b)) = _
    rw [cut_fold r]
    by_cases h : b = 10
    · have e1 : cutStep s b = (s.1 ++ [s.2], []) := if_pos h
      rw [e1, show Pn16.cut 10 (b :: r) = [] :: Pn16.cut 10 r from if_pos h]
      cases hc : Pn16.cut 10 r with
      | nil => exact absurd hc (cut_ne 10 r)
      | cons w l =>
        show s.1 ++ [s.2] ++ (if (([] ++ w) :: l).getLast?.getD [] = [] then (([] ++ w) :: l).dropLast else ([] ++ w) :: l) = s.1 ++ (if ((s.2 ++ []) :: w :: l).getLast?.getD [] = [] then ((s.2 ++ []) :: w :: l).dropLast else (s.2 ++ []) :: w :: l)
        rw [List.append_nil, List.nil_append, List.append_assoc]
        congr 1
        have e2 : (s.2 :: w :: l).getLast? = (w :: l).getLast? := by simp
        rw [e2]
        split
        · rfl
        · rfl
    · have e1 : cutStep s b = (s.1, s.2 ++ [b]) := if_neg h
      rw [e1, show Pn16.cut 10 (b :: r) = (match Pn16.cut 10 r with | [] => [[b]] | w :: l => (b :: w) :: l) from if_neg h]
      cases hc : Pn16.cut 10 r with
      | nil => exact absurd hc (cut_ne 10 r)
      | cons w l =>
        show s.1 ++ (if ((s.2 ++ [b] ++ w) :: l).getLast?.getD [] = [] then _ else _) = s.1 ++ (if ((s.2 ++ b :: w) :: l).getLast?.getD [] = [] then _ else _)
        rw [show s.2 ++ [b] ++ w = s.2 ++ b :: w by simp]
theorem cut_lines_is (t : List Nat) : cutEnd (t.foldl cutStep ([], [])) = Pn16.lines t := by
  rw [cut_fold]
  unfold Pn16.lines
  cases hc : Pn16.cut 10 t with
  | nil => exact absurd hc (cut_ne 10 t)
  | cons w r => rfl
theorem cut_step_len (t : List Nat) : ∀ (s : List (List Nat) × List Nat), (t.foldl cutStep s).1.length + (t.foldl cutStep s).2.length ≤ s.1.length + s.2.length + t.length ∧ (∀ B, (∀ l ∈ s.1, l.length + t.length ≤ B) → s.2.length + t.length ≤ B → ∀ l ∈ (t.foldl cutStep s).1, l.length ≤ B) ∧ (t.foldl cutStep s).2.length ≤ s.2.length + t.length := by
  induction t with
  | nil =>
    intro s
    refine ⟨by simp, fun B h _ l hl => by have := h l hl; simpa using this, by simp⟩
  | cons b r ih =>
    intro s
    obtain ⟨i1, i2, i3⟩ := ih (cutStep s b)
    have e : (b :: r).foldl cutStep s = r.foldl cutStep (cutStep s b) := rfl
    rw [e]
    by_cases h : b = 10
    · have e1 : cutStep s b = (s.1 ++ [s.2], []) := if_pos h
      rw [e1] at i1 i2 i3 ⊢
      refine ⟨?_, fun B hB h2 => i2 B (fun l hl => ?_) ?_, ?_⟩
      · simp only [List.length_append, List.length_cons, List.length_nil] at i1 ⊢
        omega
      · rcases List.mem_append.mp hl with hl | hl
        · have := hB l hl
          simp only [List.length_cons] at this
          omega
        · have e3 : l = s.2 := by simpa using hl
          rw [e3]
          simp only [List.length_cons] at h2
          omega
      · simp only [List.length_cons, List.length_nil] at h2 ⊢
        omega
      · simp only [List.length_cons, List.length_nil] at i3 ⊢
        omega
    · have e1 : cutStep s b = (s.1, s.2 ++ [b]) := if_neg h
      rw [e1] at i1 i2 i3 ⊢
      refine ⟨?_, fun B hB h2 => i2 B (fun l hl => ?_) ?_, ?_⟩
      · simp only [List.length_append, List.length_cons, List.length_nil] at i1 ⊢
        omega
      · have := hB l hl
        simp only [List.length_cons] at this
        omega
      · simp only [List.length_append, List.length_cons, List.length_nil] at h2 ⊢
        omega
      · simp only [List.length_append, List.length_cons, List.length_nil] at i3 ⊢
        omega
/-- lists of bytes, one at each address -/
inductive Rows (H0 H : Hp) : List Addr → List (List Nat) → Prop
  | nil : Rows H0 H [] []
  | cons {a as l ls} : H0 a = none → H a = some (.lst (bytesV l)) → Rows H0 H as ls → Rows H0 H (a :: as) (l :: ls)
theorem Rows.keep {H0 H H' : Hp} {as : List Addr} {ls : List (List Nat)} (h : Rows H0 H as ls) (k : ∀ a ∈ as, ∀ o, H a = some o → H' a = some o) : Rows H0 H' as ls := by
  induction h with
  | nil => exact .nil
  | cons h1 h2 _ ih => exact .cons h1 (k _ (List.mem_cons_self ..) _ h2) (ih fun a ha => k a (List.mem_cons_of_mem _ ha))
theorem Rows.snoc {H0 H : Hp} {as : List Addr} {ls : List (List Nat)} (h : Rows H0 H as ls) {a : Addr} {l : List Nat} (h1 : H0 a = none) (h2 : H a = some (.lst (bytesV l))) : Rows H0 H (as ++ [a]) (ls ++ [l]) := by
  induction h with
  | nil => exact .cons h1 h2 .nil
  | cons g1 g2 _ ih => exact .cons g1 g2 ih
theorem Rows.length {H0 H : Hp} {as : List Addr} {ls : List (List Nat)} (h : Rows H0 H as ls) : as.length = ls.length := by
  induction h with
  | nil => rfl
  | cons _ _ _ ih => simp [ih]
theorem Rows.get {H0 H : Hp} {as : List Addr} {ls : List (List Nat)} (h : Rows H0 H as ls) : ∀ {i : Nat} {l : List Nat}, ls[i]? = some l → ∃ a, as[i]? = some a ∧ H0 a = none ∧ H a = some (.lst (bytesV l)) := by
  induction h with
  | nil =>
    intro i l e
    simp at e
  | cons g1 g2 _ ih =>
    intro i l e
    cases i with
    | zero =>
      have e' := Option.some.inj e
      subst e'
      exact ⟨_, rfl, g1, g2⟩
    | succ i =>
      obtain ⟨a, h1, h2⟩ := ih (i := i) (l := l) e
      exact ⟨a, h1, h2⟩
def sp_cut_lines (K : PySem.W.Frag) : Sp := fun vs H Q _ => ∃ (a : Addr) (t : List Nat), vs = [.ref a] ∧ SqL K H a (bytesV t) ∧ t.length ≤ 1500 ∧
  ∀ p as H2, H p = none → Ex H H2 → H2 p = some (.lst (as.map V.ref)) → Rows H H2 as (Pn16.lines t) → Q (.ref p) H2
theorem take_succ {α : Type} {l : List α} {i : Nat} {x : α} (h : l[i]? = some x) : l.take (i + 1) = l.take i ++ [x] := by
  rw [List.take_add_one, h]
  rfl
theorem has_cut_lines {f : Addr} {fd : FuncData} (F : Fun K "cut_lines" "cut_lines" s_cut_lines f fd) (O : Own mg) (g : mg "cut_lines" = some (.ref f)) : Has P w K mg base 1 "cut_lines" ["row"] (sp_cut_lines K) := by
  refine ⟨f, fd, F.ok sc_cut_lines (fun vs H Q E h => ?_) (fun cdv A outer s H vs Q E hr h => ?_), g, F.kp, F.binds fun _ _ _ _ _ _ us hl => match us, hl with | [_], _ => rfl⟩
  · obtain ⟨a, ws, rfl, _⟩ := h
    rfl
  · obtain ⟨a, t, rfl, hl, hz, q⟩ := h
    refine ⟨_, (pss_cons (ps_set (i := 1) sc_cut_lines.nd rfl (Or.inl rfl) (pe_lst pa_nil))
      (pss_cons (ps_set (i := 2) sc_cut_lines.nd rfl (Or.inl rfl) (pe_lst pa_nil))
      (pss_cons (ps_for PassesOwn.never rfl (pi_list (pv 0)) (pg_name (i := 3) sc_cut_lines.nd rfl (Or.inl rfl)) (pss_one (ps_if (pt_cmpR op_eq (pv 3) (pe_gint O.lineEnd rfl) (nomark _)) (pss_cons (ps_expr (pe_bm PySem.F.plainAttrs_list PySem.F.slot_list_append PySem.F.type_list_append mt_append (pv 1) (pa_cons (pv 2) pa_nil)))
      (pss_one (ps_set (i := 2) sc_cut_lines.nd rfl (Or.inl rfl) (pe_lst pa_nil)))) (pss_one (ps_expr (pe_bm PySem.F.plainAttrs_list PySem.F.slot_list_append PySem.F.type_list_append mt_append (pv 2) (pa_cons (pv 3) pa_nil)))))))
      (pss_cons (ps_if (pt_cmpR op_gt (pe_callB call_len_seq (by rfl) O.len (by decide +kernel) (pa_cons (pv 2) pa_nil)) pe_int (nomark _)) (pss_one (ps_expr (pe_bm PySem.F.plainAttrs_list PySem.F.slot_list_append PySem.F.type_list_append mt_append (pv 1) (pa_cons (pv 2) pa_nil)))) pss_nil)
      (pss_one (ps_ret (pv 1))))))), ?_⟩
    refine ⟨Nat.zero_le _, fun p hp => ⟨Nat.zero_le _, fun c hc => ?_⟩⟩
    have hp' : H p = none := hp
    have hc' : H c = none := fresh_back (Ex.new hp) hc
    have hcp : c ≠ p := fun e => by
      rw [e, upd_same] at hc
      cases hc
    -- behind i bytes
    let st (i : Nat) := (t.take i).foldl cutStep ([], [])
    have bound : ∀ i, (st i).1.length + (st i).2.length ≤ 1500 ∧ (st i).2.length ≤ 1500 := fun i => by
      obtain ⟨h1, _, h3⟩ := cut_step_len (t.take i) ([], [])
      have h4 : (t.take i).length ≤ t.length := by rw [List.length_take]; omega
      simp only [List.length_nil] at h1 h3
      exact ⟨show ((t.take i).foldl cutStep ([], [])).1.length + ((t.take i).foldl cutStep ([], [])).2.length ≤ 1500 by omega, show ((t.take i).foldl cutStep ([], [])).2.length ≤ 1500 by omega⟩
    have hgo := goes_list (σ := ((start ["row", "lines", "line", "byte"] [.ref a]).set 1 (some (.ref p))).set 2 (some (.ref c))) (F := H) (K := K) (tl := tVar 0) (ev_var rfl) hl
    rw [List.length_map] at hgo
    refine q_for hgo ((Ex.new hp).trans (Ex.new hc)) (fun i σ H' => ∃ (as : List Addr) (c' : Addr) (y : Option V), σ = [some (.ref a), some (.ref p), some (.ref c'), y] ∧ Ex H H' ∧ H' p = some (.lst (as.map V.ref)) ∧ H' c' = some (.lst (bytesV (st i).2)) ∧ H c' = none ∧ c' ≠ p ∧ c' ∉ as ∧ p ∉ as ∧ Rows H H' as (st i).1) ?_ ?_ ?_ ?_
    · intro H1 e1
      refine ⟨[], c, none, rfl, ((Ex.new hp).trans (Ex.new hc)).trans e1, e1 _ _ (by rw [upd_ne hcp.symm]; exact upd_same), e1 _ _ upd_same, hc', hcp, by simp, by simp, .nil⟩
    · rintro i σ' H' _ ⟨as, c', y, _, e1, _⟩
      exact e1
    · rintro i x σ' H1 H' hi ⟨as, c', y, rfl, e1, h1, h2, h3, h4, h5, h6, R⟩ ⟨rfl, hx⟩
      have hb : t[i]? = some t[i] := List.getElem?_eq_getElem hi
      rw [List.getElem?_map, hb] at hx
      have ex := Option.some.inj hx
      subst ex
      have hst : st (i + 1) = cutStep (st i) t[i] := by
        show (t.take (i + 1)).foldl cutStep ([], []) = _
        rw [take_succ hb, List.foldl_append]
        rfl
      obtain ⟨hb1, hb2⟩ := bound i
      have hal := R.length
      refine s_if (et_eqI (ev_var rfl) ev_c) (fun ct H2 e2 => ?_) (fun ct H2 e2 => ?_)
      · have h10 : t[i] = 10 := by have := of_decide_eq_true ct; omega
        rw [show cutStep (st i) t[i] = ((st i).1 ++ [(st i).2], []) from if_pos h10] at hst
        refine q_app (K := K) (xs := as.map V.ref) (v := .ref c') (e2 _ _ h1) (ev_var rfl) (ev_var rfl) (by rw [List.length_map]; omega) fun H3 e3 => ?_
        refine ⟨Nat.zero_le _, fun d hd => ?_⟩
        have hd3 : H3 d = none := by
          by_cases e : d = p
          · rw [e, upd_same] at hd
            cases hd
          · rw [upd_ne e] at hd
            exact hd
        have hdp : d ≠ p := fun e => by
          rw [e, upd_same] at hd
          cases hd
        have hdH : H d = none := fresh_back ((e1.trans e2).trans e3) hd3
        refine ⟨as ++ [c'], d, some (.int (t[i] : Int)), rfl, ?_, ?_, ?_, hdH, hdp, ?_, ?_, ?_⟩
        · exact (Ex.mut ((e1.trans e2).trans e3) hp').trans (Ex.new hd)
        · rw [upd_ne hdp.symm, upd_same, List.map_append] <;> rfl
        · rw [upd_same, hst] <;> rfl
        · intro hm
          rcases List.mem_append.mp hm with hm | hm
          · obtain ⟨j, hj⟩ := List.mem_iff_getElem?.mp hm
            have hj2 : j < (st i).1.length := by
              rw [← hal]
              exact (List.getElem?_eq_some_iff.mp hj).1
            obtain ⟨a', g1, _, g3⟩ := R.get (List.getElem?_eq_getElem hj2)
            rw [hj] at g1
            cases g1
            have := (e2.trans e3) _ _ g3
            rw [hd3] at this
            cases this
          · have e : d = c' := by simpa using hm
            have := (e2.trans e3) _ _ h2
            rw [← e, hd3] at this
            cases this
        · intro hm
          rcases List.mem_append.mp hm with hm | hm
          · exact h6 hm
          · have e : p = c' := by simpa using hm
            exact h4 e.symm
        · rw [hst]
          refine Rows.snoc (R.keep fun b hbm o hbo => ?_) h3 ?_
          · have hbp : b ≠ p := fun e => h6 (e ▸ hbm)
            have hbd : b ≠ d := fun e => by
              have := (e2.trans e3) _ _ hbo
              rw [e, hd3] at this
              cases this
            rw [upd_ne hbd, upd_ne hbp]
            exact (e2.trans e3) _ _ hbo
          · have hcd : c' ≠ d := fun e => by
              have := (e2.trans e3) _ _ h2
              rw [e, hd3] at this
              cases this
            rw [upd_ne hcd, upd_ne h4]
            exact (e2.trans e3) _ _ h2
      · have h10 : ¬ t[i] = 10 := by have := of_decide_eq_false ct; omega
        rw [show cutStep (st i) t[i] = ((st i).1, (st i).2 ++ [t[i]]) from if_neg h10] at hst
        refine s_app (K := K) (xs := bytesV (st i).2) (v := .int (t[i] : Int)) (e2 _ _ h2) (ev_var rfl) (ev_var rfl) (by rw [List.length_map]; omega) fun H3 e3 => ?_
        refine ⟨as, c', some (.int (t[i] : Int)), rfl, Ex.mut ((e1.trans e2).trans e3) h3, ?_, ?_, h3, h4, h5, h6, ?_⟩
        · rw [upd_ne h4.symm]
          exact (e2.trans e3) _ _ h1
        · rw [upd_same, hst]
          show _ = some (HO.lst (bytesV ((st i).2 ++ [t[i]])))
          rw [bytesV, bytesV, List.map_append] <;> rfl
        · rw [hst]
          refine R.keep fun b hbm o hbo => ?_
          have hbc : b ≠ c' := fun e => h5 (e ▸ hbm)
          rw [upd_ne hbc]
          exact (e2.trans e3) _ _ hbo
    · rintro σ' H' ⟨as, c', y, rfl, e1, h1, h2, h3, h4, h5, h6, R⟩
      obtain ⟨hb1, hb2⟩ := bound t.length
      have hal := R.length
      have hfin : st t.length = t.foldl cutStep ([], []) := by
        show (t.take t.length).foldl cutStep ([], []) = _
        rw [List.take_length]
      have hlines := cut_lines_is t
      rw [← hfin] at hlines
      refine q_when (et_cmpI (f := fun i j => decide (j < i)) (ev_len (K := K) (ev_var rfl) (sq_of h2)) ev_c) (fun ct H2 e2 => ?_) (fun ct H2 e2 => ?_)
      · have hne : ¬ (st t.length).2 = [] := fun e => by
          rw [e] at ct
          simp at ct
        rw [show cutEnd (st t.length) = (st t.length).1 ++ [(st t.length).2] from if_neg hne] at hlines
        refine s_app (K := K) (xs := as.map V.ref) (v := .ref c') (e2 _ _ h1) (ev_var rfl) (ev_var rfl) (by rw [List.length_map]; omega) fun H3 e3 => ?_
        refine s_ret (ev_var rfl) fun H4 e4 => ?_
        refine q p (as ++ [c']) H4 hp' ((Ex.mut ((e1.trans e2).trans e3) hp').trans e4) (e4 _ _ (by rw [upd_same, List.map_append] <;> rfl)) ?_
        rw [← hlines]
        refine Rows.snoc (R.keep fun b hbm o hbo => e4 _ _ ?_) h3 (e4 _ _ ?_)
        · have hbp : b ≠ p := fun e => h6 (e ▸ hbm)
          rw [upd_ne hbp]
          exact (e2.trans e3) _ _ hbo
        · rw [upd_ne h4]
          exact (e2.trans e3) _ _ h2
      · have hne : (st t.length).2 = [] := by
          have := of_decide_eq_false ct
          rw [List.length_map] at this
          exact List.length_eq_zero_iff.mp (by omega)
        rw [show cutEnd (st t.length) = (st t.length).1 from if_pos hne] at hlines
        refine s_ret (ev_var rfl) fun H4 e4 => ?_
        refine q p as H4 hp' ((e1.trans e2).trans e4) ((e2.trans e4) _ _ h1) ?_
        rw [← hlines]
        exact R.keep fun b hbm o hbo => (e2.trans e4) _ _ hbo
end
end KP
set_option Elab.async false
set_option linter.all false
set_option maxRecDepth 100000
set_option maxHeartbeats 2000000
/-! The text's objects in the heap. -/
namespace KP
open PySem PySem.Spec PyProof.Rows L2 Evl
/-! ### two lists, item by item -/
inductive P2 {α β : Type} (R : α → β → Prop) : List α → List β → Prop
  | nil : P2 R [] []
  | cons {a b as bs} : R a b → P2 R as bs → P2 R (a :: as) (b :: bs)
section
variable {α β : Type} {R R' : α → β → Prop}
theorem P2.length : ∀ {as : List α} {bs : List β}, P2 R as bs → as.length = bs.length
  | _, _, .nil => rfl
  | _, _, .cons _ t => congrArg (· + 1) t.length
theorem P2.mono (h : ∀ a b, R a b → R' a b) : ∀ {as : List α} {bs : List β}, P2 R as bs → P2 R' as bs
  | _, _, .nil => .nil
  | _, _, .cons r t => .cons (h _ _ r) (t.mono h)
theorem P2.mono' : ∀ {as : List α} {bs : List β}, (∀ a ∈ as, ∀ b ∈ bs, R a b → R' a b) → P2 R as bs → P2 R' as bs
  | _, _, _, .nil => .nil
  | _, _, h, .cons r t => .cons (h _ (List.mem_cons_self ..) _ (List.mem_cons_self ..) r) (t.mono' fun a ha b hb => h a (List.mem_cons_of_mem _ ha) b (List.mem_cons_of_mem _ hb))
theorem P2.snoc {a : α} {b : β} (h : R a b) : ∀ {as : List α} {bs : List β}, P2 R as bs → P2 R (as ++ [a]) (bs ++ [b])
  | _, _, .nil => .cons h .nil
  | _, _, .cons r t => .cons r (t.snoc h)
theorem P2.get : ∀ {as : List α} {bs : List β} {i : Nat} {b : β}, P2 R as bs → bs[i]? = some b → ∃ a, as[i]? = some a ∧ R a b
  | _, _, _, _, .nil, h => by simp at h
  | _, _, 0, _, .cons (a := a) r t, h => by
    have e := Option.some.inj h
    subst e
    exact ⟨a, rfl, r⟩
  | _, _, i + 1, _, .cons r t, h => by
    obtain ⟨a, h1, h2⟩ := P2.get (i := i) t h
    exact ⟨a, h1, h2⟩
theorem P2.geta : ∀ {as : List α} {bs : List β} {i : Nat} {a : α}, P2 R as bs → as[i]? = some a → ∃ b, bs[i]? = some b ∧ R a b
  | _, _, _, _, .nil, h => by simp at h
  | _, _, 0, _, .cons (b := b) r t, h => by
    have e := Option.some.inj h
    subst e
    exact ⟨b, rfl, r⟩
  | _, _, i + 1, _, .cons r t, h => by
    obtain ⟨a, h1, h2⟩ := P2.geta (i := i) t h
    exact ⟨a, h1, h2⟩
theorem P2.mem {as : List α} {bs : List β} {a : α} (h : P2 R as bs) (m : a ∈ as) : ∃ b ∈ bs, R a b := by
  obtain ⟨i, hi⟩ := List.mem_iff_getElem?.mp m
  obtain ⟨b, h1, h2⟩ := h.geta hi
  exact ⟨b, List.mem_of_getElem? h1, h2⟩
theorem P2.append : ∀ {as cs : List α} {bs ds : List β}, P2 R as bs → P2 R cs ds → P2 R (as ++ cs) (bs ++ ds)
  | _, _, _, _, .nil, h => h
  | _, _, _, _, .cons r t, h => .cons r (t.append h)
theorem P2.last : ∀ {as : List α} {bs : List β} {b : β}, P2 R as (bs ++ [b]) → ∃ as' a, as = as' ++ [a] ∧ P2 R as' bs ∧ R a b
  | _, [], b, .cons (a := a) r .nil => ⟨[], a, rfl, .nil, r⟩
  | _, c :: bs, b, .cons (a := a) r t => by
    obtain ⟨as', a', e, h1, h2⟩ := P2.last (bs := bs) t
    exact ⟨a :: as', a', by rw [e]; rfl, .cons r h1, h2⟩
end
/-! ### acts, texts -/
structure ActA where
  (b dx p q c l0 l1 l2 l3 : Addr)
  (t0 t1 t2 t3 : List Addr)
def aF (s : Pn16.Schema) (A : ActA) : List (Str × V) := [("name", .str (S s.name)), ("cost", .int (s.cost : Int)), ("places", .ref A.p), ("kinds", .ref A.q), ("claims", .ref A.c)]
def cD (A : ActA) : List (Key × V) := [(.inr "needs", .ref A.l0), (.inr "bars", .ref A.l1), (.inr "brings", .ref A.l2), (.inr "takes", .ref A.l3)]
def ClaimsAt (H : Hp) (x : Pn16.Text) (s : Pn16.Schema) (l : Addr) (ts : List Addr) (ls : List Pn16.Lit) : Prop := H l = some (.lst (ts.map V.ref)) ∧ P2 (fun t q => H t = some (.tup (txts (litWords x s q)))) ts ls
structure ActAt (CA : Addr) (H : Hp) (x : Pn16.Text) (A : ActA) (s : Pn16.Schema) : Prop where
  ins : H A.b = some (.ins CA A.dx (aF s A))
  places : H A.p = some (.lst (txts (Pn16.names s.places)))
  kinds : H A.q = some (.lst (txts (s.places.map fun p => kindName x p.2)))
  dict : H A.c = some (.dK (cD A))
  needs : ClaimsAt H x s A.l0 A.t0 s.needs
  bars : ClaimsAt H x s A.l1 A.t1 s.bars
  brings : ClaimsAt H x s A.l2 A.t2 s.brings
  takes : ClaimsAt H x s A.l3 A.t3 s.takes
structure TextA where
  (a dx k t tk f fk ac nw wt : Addr)
  (fks : List Addr)
  (as : List ActA)
  (ns ws : List Addr)
def tF (A : TextA) : List (Str × V) := [("kinds", .ref A.k), ("things", .ref A.t), ("thing_kinds", .ref A.tk), ("facts", .ref A.f), ("fact_kinds", .ref A.fk), ("acts", .ref A.ac), ("now", .ref A.nw), ("want", .ref A.wt)]
structure TextAt (CT CA : Addr) (H : Hp) (A : TextA) (x : Pn16.Text) : Prop where
  ins : H A.a = some (.ins CT A.dx (tF A))
  kinds : H A.k = some (.lst (txts x.kinds))
  things : H A.t = some (.lst (txts (Pn16.names x.things)))
  thingKinds : H A.tk = some (.lst (txts (x.things.map fun t => kindName x t.2)))
  facts : H A.f = some (.lst (txts (Pn16.names x.facts)))
  factKinds : H A.fk = some (.lst (A.fks.map V.ref))
  fks : P2 (fun a (f : Pn16.Bytes × List Nat) => H a = some (.lst (txts (f.2.map (kindName x))))) A.fks x.facts
  acts : H A.ac = some (.lst (A.as.map fun q => V.ref q.b))
  as : P2 (ActAt CA H x) A.as x.acts
  now : H A.nw = some (.lst (A.ns.map V.ref))
  ns : P2 (fun a f => H a = some (.tup (txts (saidWords x f)))) A.ns x.now
  want : H A.wt = some (.lst (A.ws.map V.ref))
  ws : P2 (fun a f => H a = some (.tup (txts (saidWords x f)))) A.ws x.want
theorem ClaimsAt.mono {H H' : Hp} {x : Pn16.Text} {s : Pn16.Schema} {l : Addr} {ts : List Addr} {ls : List Pn16.Lit} (e : Ex H H') (h : ClaimsAt H x s l ts ls) : ClaimsAt H' x s l ts ls := ⟨e _ _ h.1, h.2.mono fun _ _ z => e _ _ z⟩
theorem ActAt.mono {CA : Addr} {H H' : Hp} {x : Pn16.Text} {A : ActA} {s : Pn16.Schema} (e : Ex H H') (h : ActAt CA H x A s) : ActAt CA H' x A s :=
  ⟨e _ _ h.ins, e _ _ h.places, e _ _ h.kinds, e _ _ h.dict, h.needs.mono e, h.bars.mono e, h.brings.mono e, h.takes.mono e⟩
theorem TextAt.mono {CT CA : Addr} {H H' : Hp} {A : TextA} {x : Pn16.Text} (e : Ex H H') (h : TextAt CT CA H A x) : TextAt CT CA H' A x :=
  ⟨e _ _ h.ins, e _ _ h.kinds, e _ _ h.things, e _ _ h.thingKinds, e _ _ h.facts, e _ _ h.factKinds, h.fks.mono fun _ _ z => e _ _ z, e _ _ h.acts, h.as.mono fun _ _ z => z.mono e, e _ _ h.now, h.ns.mono fun _ _ z => e _ _ z, e _ _ h.want, h.ws.mono fun _ _ z => e _ _ z⟩
/-- what the top has written of the classes -/
structure Clss (K : PySem.W.Frag) (CT CA : Addr) : Prop where
  t : Cls K CT
  tk : NoAttr K CT "kinds"
  tt : NoAttr K CT "things"
  ttk : NoAttr K CT "thing_kinds"
  tf : NoAttr K CT "facts"
  tfk : NoAttr K CT "fact_kinds"
  tac : NoAttr K CT "acts"
  tn : NoAttr K CT "now"
  tw : NoAttr K CT "want"
  a : Cls K CA
  an : NoAttr K CA "name"
  aco : NoAttr K CA "cost"
  ap : NoAttr K CA "places"
  ak : NoAttr K CA "kinds"
  acl : NoAttr K CA "claims"
theorem lk_here {k : Str} {v : V} {r : List (Str × V)} : List.lookup k ((k, v) :: r) = some v := by
  have e : (k == k) = true := beq_self_eq_true k
  simp only [List.lookup, e]
theorem lk_past {k g : Str} {v : V} {r : List (Str × V)} (h : (k == g) = false) : List.lookup k ((g, v) :: r) = List.lookup k r := by
  simp only [List.lookup, h]
section
variable {K : PySem.W.Frag} {CT CA : Addr} {σ : L2.St} {F : Hp} {ta te : TE} {A : TextA} {B : ActA} {x : Pn16.Text} {s : Pn16.Schema}
theorem ev_fld {a C dx : Addr} {fs : List (Str × V)} {f : Str} {v : V} (ha : Ev ta σ F (.ref a)) (h : F a = some (.ins C dx fs)) (c : Cls K C) (n : NoAttr K C f) (l : fs.lookup f = some v) : Ev (tFld K ta f) σ F v := fun H1 e Q q =>
  ha H1 e _ fun H2 e2 => ⟨a, C, dx, fs, v, rfl, (e.trans e2) _ _ h, c, n, l, q H2 e2⟩
theorem ev_kinds (T : TextAt CT CA F A x) (c : Clss K CT CA) (ha : Ev ta σ F (.ref A.a)) : Ev (tFld K ta "kinds") σ F (.ref A.k) := ev_fld ha T.ins c.t c.tk lk_here
theorem ev_things (T : TextAt CT CA F A x) (c : Clss K CT CA) (ha : Ev ta σ F (.ref A.a)) : Ev (tFld K ta "things") σ F (.ref A.t) := ev_fld ha T.ins c.t c.tt ((lk_past (by decide +kernel)).trans lk_here)
theorem ev_thingKinds (T : TextAt CT CA F A x) (c : Clss K CT CA) (ha : Ev ta σ F (.ref A.a)) : Ev (tFld K ta "thing_kinds") σ F (.ref A.tk) := ev_fld ha T.ins c.t c.ttk ((lk_past (by decide +kernel)).trans ((lk_past (by decide +kernel)).trans lk_here))
theorem ev_facts (T : TextAt CT CA F A x) (c : Clss K CT CA) (ha : Ev ta σ F (.ref A.a)) : Ev (tFld K ta "facts") σ F (.ref A.f) := ev_fld ha T.ins c.t c.tf ((lk_past (by decide +kernel)).trans ((lk_past (by decide +kernel)).trans ((lk_past (by decide +kernel)).trans lk_here)))
theorem ev_factKinds (T : TextAt CT CA F A x) (c : Clss K CT CA) (ha : Ev ta σ F (.ref A.a)) : Ev (tFld K ta "fact_kinds") σ F (.ref A.fk) := ev_fld ha T.ins c.t c.tfk ((lk_past (by decide +kernel)).trans ((lk_past (by decide +kernel)).trans ((lk_past (by decide +kernel)).trans ((lk_past (by decide +kernel)).trans lk_here))))
theorem ev_acts (T : TextAt CT CA F A x) (c : Clss K CT CA) (ha : Ev ta σ F (.ref A.a)) : Ev (tFld K ta "acts") σ F (.ref A.ac) := ev_fld ha T.ins c.t c.tac ((lk_past (by decide +kernel)).trans ((lk_past (by decide +kernel)).trans ((lk_past (by decide +kernel)).trans ((lk_past (by decide +kernel)).trans ((lk_past (by decide +kernel)).trans lk_here)))))
theorem ev_now (T : TextAt CT CA F A x) (c : Clss K CT CA) (ha : Ev ta σ F (.ref A.a)) : Ev (tFld K ta "now") σ F (.ref A.nw) := ev_fld ha T.ins c.t c.tn ((lk_past (by decide +kernel)).trans ((lk_past (by decide +kernel)).trans ((lk_past (by decide +kernel)).trans ((lk_past (by decide +kernel)).trans ((lk_past (by decide +kernel)).trans ((lk_past (by decide +kernel)).trans lk_here))))))
theorem ev_want (T : TextAt CT CA F A x) (c : Clss K CT CA) (ha : Ev ta σ F (.ref A.a)) : Ev (tFld K ta "want") σ F (.ref A.wt) := ev_fld ha T.ins c.t c.tw ((lk_past (by decide +kernel)).trans ((lk_past (by decide +kernel)).trans ((lk_past (by decide +kernel)).trans ((lk_past (by decide +kernel)).trans ((lk_past (by decide +kernel)).trans ((lk_past (by decide +kernel)).trans ((lk_past (by decide +kernel)).trans lk_here)))))))
theorem ev_aname (T : ActAt CA F x B s) (c : Clss K CT CA) (ha : Ev ta σ F (.ref B.b)) : Ev (tFld K ta "name") σ F (.str (S s.name)) := ev_fld ha T.ins c.a c.an lk_here
theorem ev_acost (T : ActAt CA F x B s) (c : Clss K CT CA) (ha : Ev ta σ F (.ref B.b)) : Ev (tFld K ta "cost") σ F (.int (s.cost : Int)) := ev_fld ha T.ins c.a c.aco ((lk_past (by decide +kernel)).trans lk_here)
theorem ev_aplaces (T : ActAt CA F x B s) (c : Clss K CT CA) (ha : Ev ta σ F (.ref B.b)) : Ev (tFld K ta "places") σ F (.ref B.p) := ev_fld ha T.ins c.a c.ap ((lk_past (by decide +kernel)).trans ((lk_past (by decide +kernel)).trans lk_here))
theorem ev_akinds (T : ActAt CA F x B s) (c : Clss K CT CA) (ha : Ev ta σ F (.ref B.b)) : Ev (tFld K ta "kinds") σ F (.ref B.q) := ev_fld ha T.ins c.a c.ak ((lk_past (by decide +kernel)).trans ((lk_past (by decide +kernel)).trans ((lk_past (by decide +kernel)).trans lk_here)))
theorem ev_aclaims (T : ActAt CA F x B s) (c : Clss K CT CA) (ha : Ev ta σ F (.ref B.b)) : Ev (tFld K ta "claims") σ F (.ref B.c) := ev_fld ha T.ins c.a c.acl ((lk_past (by decide +kernel)).trans ((lk_past (by decide +kernel)).trans ((lk_past (by decide +kernel)).trans ((lk_past (by decide +kernel)).trans lk_here))))
/-! ### w in a list of texts; its place there -/
theorem inV_txts (w : List Nat) (ws : List (List Nat)) : inV (.str (S w)) (txts ws) = ws.contains w := by
  unfold inV
  rw [List.any_map, Bool.eq_iff_iff, List.any_eq_true, List.contains_iff_mem]
  constructor
  · rintro ⟨v, hv, e⟩
    have e' : (S v == S w) = true := e
    have := S_inj (eq_of_beq e')
    rw [← this]
    exact hv
  · intro h
    exact ⟨w, h, show (S w == S w) = true from beq_self_eq_true _⟩
theorem flat_txts (ws : List (List Nat)) : (txts ws).all flatV = true := by
  rw [List.all_map]
  exact List.all_eq_true.mpr fun _ _ => rfl
theorem ev_inL {p : Addr} {w : List Nat} {ws : List (List Nat)} {tb : TE} (ha : Ev ta σ F (.str (S w))) (hb : Ev tb σ F (.ref p)) (h : SqL K F p (txts ws)) : Ev (tOp (rIn K false) ta tb) σ F (.bl (ws.contains w)) :=
  ev_is (ev_op ha hb (rv_isL h rfl (flat_txts ws))) (by rw [inV_txts])
theorem ev_inT {p : Addr} {w : List Nat} {ws : List (List Nat)} {tb : TE} (ha : Ev ta σ F (.str (S w))) (hb : Ev tb σ F (.ref p)) (h : SqT K F p (txts ws)) : Ev (tOp (rIn K false) ta tb) σ F (.bl (ws.contains w)) :=
  ev_is (ev_op ha hb (rv_isT h rfl (flat_txts ws))) (by rw [inV_txts])
/-- l.index(w), w in it -/
theorem ev_index {p : Addr} {w : List Nat} {ws : List (List Nat)} {tb : TE} (ha : Ev ta σ F (.ref p)) (hb : Ev tb σ F (.str (S w))) (h : SqL K F p (txts ws)) (hw : w ∈ ws) : Ev (tBM K "list" (rIndex K) ta (tCons tb tNil)) σ F (.int (ws.idxOf w : Nat)) := fun H1 e Q q =>
  ha H1 e _ fun H2 e2 => ⟨.inl ⟨rfl, _, ex_l (e.trans e2) h⟩, hb H2 (e.trans e2) _ fun H3 e3 => by
    have hlt : ws.idxOf w < ws.length := List.idxOf_lt_length_of_mem hw
    refine ⟨p, txts ws, .str (S w), ws.idxOf w, .str (S w), rfl, rfl, ex_l ((e.trans e2).trans e3) h, rfl, flat_txts ws, ?_, show (S w == S w) = true from beq_self_eq_true _, ?_, q H3 (e2.trans e3)⟩
    · rw [List.getElem?_map, List.getElem?_eq_getElem hlt, List.getElem_idxOf hlt] <;> rfl
    · intro m z hm hz
      have hml : m < ws.length := by omega
      rw [List.getElem?_map, List.getElem?_eq_getElem hml] at hz
      have ez : V.str (S ws[m]) = z := Option.some.inj hz
      subst ez
      show (S ws[m] == S w) = false
      have hne : ¬ (ws[m] == w) = true := by
        have := List.not_of_lt_findIdx (p := fun y => y == w) (xs := ws) (i := m) hm
        simpa using this
      cases hb : (S ws[m] == S w) with
      | false => rfl
      | true =>
        have := S_inj (eq_of_beq hb)
        rw [this] at hne
        exact absurd (beq_self_eq_true w) hne⟩
/-- xs[i] of texts -/
theorem ev_txt {p : Addr} {ws : List (List Nat)} {i : Nat} {w : List Nat} {tb : TE} (ha : Ev ta σ F (.ref p)) (hb : Ev tb σ F (.int (i : Nat))) (h : SqL K F p (txts ws)) (hw : ws[i]? = some w) : Ev (tOp (rIxL K) ta tb) σ F (.str (S w)) :=
  ev_op ha hb (rv_ixL h (atI_nat (by rw [List.getElem?_map, hw]; rfl)))
theorem atI_last {xs : List V} {v : V} : atI (xs ++ [v]) (-1) = some v := by
  have e : ixN ((xs ++ [v]).length) (-1) = some (xs.length) := by
    unfold ixN
    rw [List.length_append, List.length_cons, List.length_nil, if_neg (by decide), if_pos (by omega)]
    congr 1
    omega
  unfold atI
  rw [e]
  show (xs ++ [v])[xs.length]? = some v
  simp
theorem ev_last {p : Addr} {xs : List V} {v : V} (ha : Ev ta σ F (.ref p)) (h : SqL K F p (xs ++ [v])) : Ev (tOp (rIxL K) ta (tUn (rU fun i => .int (-i)) (tC (.int 1)))) σ F v :=
  ev_op ha (ev_un ev_c ru_neg) (rv_ixL h atI_last)
theorem ev_isEmpty {p : Addr} {xs : List V} (ha : Ev ta σ F (.ref p)) (h : SqL K F p xs) : EvT (tTest (tOp rEq (tCB (rLenS K) (tCons ta tNil)) (tC (.int 0)))) σ F (decide (xs = [])) := by
  refine et_is (et_eqI (ev_len ha h) ev_c) ?_
  rw [decide_eq_decide]
  constructor
  · intro e
    exact List.length_eq_zero_iff.mp (by omega)
  · intro e
    rw [e]
    rfl
theorem key_kind : ("kind" : Str) = S kKind := by decide +kernel
theorem key_thing : ("thing" : Str) = S kThing := by decide +kernel
theorem key_fact : ("fact" : Str) = S kFact := by decide +kernel
theorem key_act : ("act" : Str) = S kAct := by decide +kernel
theorem key_needs : ("needs" : Str) = S kNeeds := by decide +kernel
theorem key_bars : ("bars" : Str) = S kBars := by decide +kernel
theorem key_brings : ("brings" : Str) = S kBrings := by decide +kernel
theorem key_takes : ("takes" : Str) = S kTakes := by decide +kernel
theorem key_now : ("now" : Str) = S kNow := by decide +kernel
theorem key_want : ("want" : Str) = S kWant := by decide +kernel
theorem key_argument : ("argument" : Str) = S rArg := by decide +kernel
theorem key_cost : ("cost" : Str) = S rCost := by decide +kernel
theorem et_key {w k : List Nat} {z : Str} (hz : z = S k) (ha : Ev ta σ F (.str (S w))) : EvT (tTest (tOp rEq ta (tC (.str z)))) σ F (decide (w = k)) := by
  rw [hz]
  exact et_is (et_eqS ha ev_c) S_eq
end
/-! ### last_places -/
section
variable {K : PySem.W.Frag} {mg : Str → Option Value} {P : Program} {w : World} {base : Heap} {CT CA : Addr}
theorem TextAt.last {H : Hp} {A : TextA} {x : Pn16.Text} (T : TextAt CT CA H A x) {s : Pn16.Schema} (h : x.acts.getLast? = some s) : ∃ as' B, A.as = as' ++ [B] ∧ ActAt CA H x B s ∧ ∃ pre, x.acts = pre ++ [s] := by
  obtain ⟨ys, hy⟩ := List.getLast?_eq_some_iff.mp h
  have p := T.as
  rw [hy] at p
  obtain ⟨as', B, e, _, q⟩ := P2.last p
  exact ⟨as', B, e, q, ys, hy⟩
theorem TextAt.noActs {H : Hp} {A : TextA} {x : Pn16.Text} (T : TextAt CT CA H A x) : A.as = [] ↔ x.acts = [] := by
  have := T.as.length
  constructor
  · intro e
    rw [e] at this
    exact List.length_eq_zero_iff.mp this.symm
  · intro e
    rw [e] at this
    exact List.length_eq_zero_iff.mp this
abbrev s_last_places : Stmt := top 16
theorem sc_last_places : FnScope ["text"] ["text"] (defScope s_last_places) := ⟨rfl, rfl, rfl, by decide +kernel, rfl, by decide +kernel, by decide +kernel⟩
def sp_last_places (K : PySem.W.Frag) (CT CA : Addr) : Sp := fun vs H Q _ => ∃ (A : TextA) (x : Pn16.Text), vs = [.ref A.a] ∧ TextAt CT CA H A x ∧ ∀ p H2, Ex H H2 → SqL K H2 p (txts (lastPlaces x)) → Q (.ref p) H2
theorem has_last_places {f : Addr} {fd : FuncData} (F : Fun K "last_places" "last_places" s_last_places f fd) (O : Own mg) (C : Clss K CT CA) (g : mg "last_places" = some (.ref f)) : Has P w K mg base 1 "last_places" ["text"] (sp_last_places K CT CA) := by
  refine ⟨f, fd, F.ok sc_last_places (fun vs H Q E h => ?_) (fun cdv A outer s H vs Q E hr h => ?_), g, F.kp, F.binds fun _ _ _ _ _ _ us hl => match us, hl with | [_], _ => rfl⟩
  · obtain ⟨a, l, rfl, _⟩ := h
    rfl
  · obtain ⟨A, x, rfl, T, q⟩ := h
    refine ⟨_, (pss_cons (ps_if (pt_cmpR op_eq (pe_callB call_len_seq (by rfl) O.len (by decide +kernel) (pa_cons (pe_fld (pv 0) rfl) pa_nil)) pe_int (nomark _)) (pss_one (ps_ret (pe_lst pa_nil))) pss_nil)
      (pss_one (ps_ret (pe_fld (pe_ix ix_list (pe_fld (pv 0) rfl) (pe_un un_neg pe_int) (fun _ _ => rfl)) rfl)))), ?_⟩
    refine q_when (ev_isEmpty (K := K) (ev_acts T C (ev_var rfl)) (sq_of T.acts)) (fun c H1 e1 => ?_) (fun c H1 e1 => ?_)
    · have he : A.as = [] := List.map_eq_nil_iff.mp (of_decide_eq_true c)
      have hx : x.acts = [] := T.noActs.mp he
      refine ⟨Nat.zero_le _, fun p hp => q p _ (e1.trans (Ex.new hp)) (sq_of ?_)⟩
      rw [upd_same]
      unfold lastPlaces
      rw [hx]
      rfl
    · have he : ¬ A.as = [] := fun e => of_decide_eq_false c (by rw [e]; rfl)
      have hx : ¬ x.acts = [] := fun e => he (T.noActs.mpr e)
      obtain ⟨s, hs⟩ : ∃ s, x.acts.getLast? = some s := by
        cases e : x.acts.getLast? with
        | none => exact absurd (List.getLast?_eq_none_iff.mp e) hx
        | some s => exact ⟨s, rfl⟩
      obtain ⟨as', B, eA, TB, _⟩ := T.last hs
      have hl := T.acts
      rw [eA, List.map_append] at hl
      have T1 := T.mono e1
      have TB1 := TB.mono e1
      refine s_ret (ev_aplaces TB1 C (ev_last (K := K) (ev_acts T1 C (ev_var rfl)) (sq_of (e1 _ _ hl)))) fun H2 e2 => q B.p H2 (e1.trans e2) (sq_of ?_)
      have := e2 _ _ TB1.places
      rw [this]
      unfold lastPlaces
      rw [hs]
/-! ### claims_of -/
def ActA.l (B : ActA) (w : Nat) : Addr := if w = 0 then B.l0 else if w = 1 then B.l1 else if w = 2 then B.l2 else B.l3
def ActA.ts (B : ActA) (w : Nat) : List Addr := if w = 0 then B.t0 else if w = 1 then B.t1 else if w = 2 then B.t2 else B.t3
theorem ActAt.claims {H : Hp} {x : Pn16.Text} {B : ActA} {s : Pn16.Schema} (T : ActAt CA H x B s) (w : Nat) : ClaimsAt H x s (B.l w) (B.ts w) (Pn16.litsOf w s) := by
  unfold ActA.l ActA.ts Pn16.litsOf
  split
  · exact T.needs
  · split
    · exact T.bars
    · split
      · exact T.brings
      · exact T.takes
abbrev s_claims_of : Stmt := top 15
theorem sc_claims_of : FnScope ["text", "sort"] ["text", "sort"] (defScope s_claims_of) := ⟨rfl, rfl, rfl, by decide +kernel, rfl, by decide +kernel, by decide +kernel⟩
/-- the list of what's said by this sort -/
def sp_claims_of (CT CA : Addr) : Sp := fun vs H Q _ => ∃ (A : TextA) (x : Pn16.Text) (f : List Nat), vs = [.ref A.a, .str (S f)] ∧ TextAt CT CA H A x ∧ (f = kNow ∨ f = kWant ∨ ofAct f = true) ∧
  (f = kNow → ∀ H2, Ex H H2 → Q (.ref A.nw) H2) ∧ (f = kWant → ∀ H2, Ex H H2 → Q (.ref A.wt) H2) ∧
  (ofAct f = true → x.acts = [] → ∀ p H2, H p = none → Ex H H2 → H2 p = some (.lst []) → Q (.ref p) H2) ∧
  (ofAct f = true → ∀ as' B, A.as = as' ++ [B] → ∀ H2, Ex H H2 → Q (.ref (B.l (which f))) H2)
theorem valV_claims (B : ActA) {f : List Nat} (hf : ofAct f = true) : valV (cD B) (Sum.inr (S f)) = some (.ref (B.l (which f))) := by
  have h : f = kNeeds ∨ f = kBars ∨ f = kBrings ∨ f = kTakes := of_decide_eq_true hf
  unfold valV cD
  rw [key_needs, key_bars, key_brings, key_takes]
  have n1 : ¬ S kNeeds = S kBars := by decide
  have n2 : ¬ S kNeeds = S kBrings := by decide
  have n3 : ¬ S kBars = S kBrings := by decide
  have n4 : ¬ S kNeeds = S kTakes := by decide
  have n5 : ¬ S kBars = S kTakes := by decide
  have n6 : ¬ S kBrings = S kTakes := by decide
  rcases h with h | h | h | h <;> subst h <;> simp [n1, n2, n3, n4, n5, n6] <;> rfl
theorem has_claims_of {f : Addr} {fd : FuncData} (F : Fun K "claims_of" "claims_of" s_claims_of f fd) (O : Own mg) (C : Clss K CT CA) (g : mg "claims_of" = some (.ref f)) : Has P w K mg base 1 "claims_of" ["text", "sort"] (sp_claims_of CT CA) := by
  refine ⟨f, fd, F.ok sc_claims_of (fun vs H Q E h => ?_) (fun cdv A outer s H vs Q E hr h => ?_), g, F.kp, F.binds fun _ _ _ _ _ _ us hl => match us, hl with | [_, _], _ => rfl⟩
  · obtain ⟨a, l, k, rfl, _⟩ := h
    rfl
  · obtain ⟨A, x, k, rfl, T, hk, q1, q2, q3, q4⟩ := h
    have hu := hu_of hr
    refine ⟨_, (pss_cons (ps_if (pt_cmpR op_eq (pv 1) pe_str (nomark _)) (pss_one (ps_ret (pe_fld (pv 0) rfl))) pss_nil)
      (pss_cons (ps_if (pt_cmpR op_eq (pv 1) pe_str (nomark _)) (pss_one (ps_ret (pe_fld (pv 0) rfl))) pss_nil)
      (pss_cons (ps_if (pt_cmpR op_eq (pe_callB call_len_seq (by rfl) O.len (by decide +kernel) (pa_cons (pe_fld (pv 0) rfl) pa_nil)) pe_int (nomark _)) (pss_one (ps_ret (pe_lst pa_nil))) pss_nil)
      (pss_one (ps_ret (pe_dget hu (pe_fld (pe_ix ix_list (pe_fld (pv 0) rfl) (pe_un un_neg pe_int) (fun _ _ => rfl)) rfl) (pv 1) (fun _ _ => rfl))))))), ?_⟩
    refine q_when (et_key key_now (ev_var rfl)) (fun c H1 e1 => ?_) (fun c1 H1 e1 => ?_)
    · exact s_ret (ev_now (T.mono e1) C (ev_var rfl)) fun H2 e2 => q1 (of_decide_eq_true c) H2 (e1.trans e2)
    refine q_when (et_key key_want (ev_var rfl)) (fun c H2 e2 => ?_) (fun c2 H2 e2 => ?_)
    · exact s_ret (ev_want (T.mono (e1.trans e2)) C (ev_var rfl)) fun H3 e3 => q2 (of_decide_eq_true c) H3 ((e1.trans e2).trans e3)
    have hf : ofAct k = true := by
      rcases hk with h | h | h
      · exact absurd h (of_decide_eq_false c1)
      · exact absurd h (of_decide_eq_false c2)
      · exact h
    have e12 := e1.trans e2
    have T2 := T.mono e12
    refine q_when (ev_isEmpty (K := K) (ev_acts T2 C (ev_var rfl)) (sq_of T2.acts)) (fun c H3 e3 => ?_) (fun c H3 e3 => ?_)
    · have he : A.as = [] := List.map_eq_nil_iff.mp (of_decide_eq_true c)
      exact ⟨Nat.zero_le _, fun p hp => q3 hf (T.noActs.mp he) p _ (fresh_back (e12.trans e3) hp) ((e12.trans e3).trans (Ex.new hp)) upd_same⟩
    · have he : ¬ A.as = [] := fun e => of_decide_eq_false c (by rw [e]; rfl)
      have hx : ¬ x.acts = [] := fun e => he (T.noActs.mpr e)
      obtain ⟨s, hs⟩ : ∃ s, x.acts.getLast? = some s := by
        cases e : x.acts.getLast? with
        | none => exact absurd (List.getLast?_eq_none_iff.mp e) hx
        | some s => exact ⟨s, rfl⟩
      obtain ⟨as', B, eA, TB, _⟩ := T.last hs
      have hl := T.acts
      rw [eA, List.map_append] at hl
      have e123 := e12.trans e3
      have T3 := T.mono e123
      have TB3 := TB.mono e123
      refine s_ret (v := .ref (B.l (which k))) (fun H4 e4 Q4 k4 => ?_) fun H4 e4 => q4 hf as' B eA H4 (e123.trans e4)
      refine ev_aclaims TB3 C (ev_last (K := K) (ev_acts T3 C (ev_var rfl)) (sq_of (e123 _ _ hl))) H4 e4 _ fun H5 e5 => ?_
      refine ⟨_, rfl, B.c, _, rfl, ?_, k4 H5 e5⟩
      have := DGet.k (H := H5) (a := B.c) (kvs := cD B) (k := Sum.inr (S k)) ((e4.trans e5) _ _ TB3.dict)
      rw [valV_claims B hf] at this
      exact this
end
end KP
set_option Elab.async false
set_option linter.all false
set_option maxRecDepth 100000
set_option maxHeartbeats 400000
/-! zip(t, l) of a tuple and a list, walked by pairs. -/
namespace KP
open PySem PySem.Spec PyProof.Rows L2 Evl
def Zm (K : PySem.W.Frag) (a b : Addr) : It where
  go := fun i H => ∃ (us vs : List V) (u v : V), SqT K H a us ∧ SqL K H b vs ∧ us[i]? = some u ∧ vs[i]? = some v
  yld := fun i H r H' => ∃ N u v, r = .ref N ∧ H N = none ∧ H' = upd H N (.tup [u, v]) ∧ (∀ us, SqT K H a us → us[i]? = some u) ∧ (∀ vs, SqL K H b vs → vs[i]? = some v)
  stop := fun i H => ∃ us vs : List V, SqT K H a us ∧ SqL K H b vs ∧ (us.length = i ∨ vs.length = i) ∧ i ≤ us.length ∧ i ≤ vs.length
theorem five {c z i o p q : Addr} (h : c ∈ [z, i, o, p, q]) : c = z ∨ c = i ∨ c = o ∨ c = p ∨ c = q := by simpa using h
theorem zm_sep {z TI TO p q a b : Addr} (D : ZipApart z TI TO p q a b) : ZipSep2 z TI TO p q [p, a] [q, b] where
  TIz := D.TIz
  TOz := D.TOz
  TITO := D.TITO
  TIi1 := D.TIi1
  mem1 := by simp
  zf1 := by simp [D.i1z.symm, D.l1z.symm]
  Tf1 := by simp [D.TOi1, D.l1TO.symm]
  TIi2 := D.TIi2
  mem2 := by simp
  zf2 := by simp [D.i2z.symm, D.l2z.symm]
  Tf2 := by simp [D.TOi2, D.l2TO.symm]
  sep1_2 := by simp [D.i12, D.l2i1.symm]
  sep2_1 := by simp [D.i12.symm, D.l1i2.symm]
/-- how the walk stands ahead of turn i -/
def ZmAt (z TI TO p q a b : Addr) (i : Nat) (h : Heap) : Prop := (IsZip h z TI TO .none ∧ IsPair h TI (.ref p) (.ref q)) ∧ (∃ u v, IsPair h TO u v) ∧ h.IsTupleIter p a i ∧ h.IsListIter q b i
theorem zm_turn {P : Program} {w : World} {K : PySem.W.Frag} {elts : List Expr} {kk : Nat} {tpos : Pos} {a b z TI TO p q : Addr} (D : ZipApart z TI TO p q a b) :
    Turn P w K (.Tuple elts kk tpos) (Zm K a b) [z, TI, TO, p, q] z (ZmAt z TI TO p q a b) where
  mem := List.mem_cons_self ..
  obj := by
    rintro i h ⟨⟨y1, y2⟩, ⟨u, v, y3⟩, ⟨ob1, y4, _, y5⟩, ⟨ob2, y6, _, y7⟩⟩ c hc
    rcases five hc with e | e | e | e | e <;> subst e
    · exact ⟨_, y1, fun _ n => nomatch n⟩
    · exact ⟨_, y2, fun _ n => nomatch n⟩
    · exact ⟨_, y3, fun _ n => nomatch n⟩
    · exact ⟨ob1, y4, fun _ n => by rw [y5] at n; cases n⟩
    · exact ⟨ob2, y6, fun _ n => by rw [y7] at n; cases n⟩
  keep := by
    rintro i h h' ⟨⟨y1, y2⟩, ⟨u, v, y3⟩, y4, y5⟩ k
    refine ⟨⟨k z (by simp) _ y1, k TI (by simp) _ y2⟩, ⟨u, v, k TO (by simp) _ y3⟩, y4.at fun o => k p (by simp) o, y5.at fun o => k q (by simp) o⟩
  item := by
    intro X hP hw hK calm i pins s σ H E I fr at_ hgo
    subst hP hw hK
    obtain ⟨⟨y1, y2⟩, ⟨u0, v0, y3⟩, y4, y5⟩ := at_
    obtain ⟨us, vs, u, v, su, sv, gu, gv⟩ := hgo
    obtain ⟨ius, ru, tu, _⟩ := I.tuple su
    obtain ⟨ivs, rv, lv, _⟩ := I.list sv
    have lu := ru.length
    have lv' := rv.length
    have bu := (List.getElem?_eq_some_iff.mp gu).1
    have bv := (List.getElem?_eq_some_iff.mp gv).1
    have zl : z < s.heap.objs.size := Heap.lt_size y1
    have hh : X.A.in1.handled = none := I.ok.hd calm
    refine wpAny_pyNext_zipD2_item (zm_sep D) (Draws.tuple hh p a D.l1i1 ius.toArray) (Draws.list hh q b D.l2i2 ivs.toArray) y1 y2 y3 ⟨y4, tu⟩ ⟨y5, lv.isList⟩ (by simp; omega) (by simp; omega) fun x1 x2 h' tk e1 e2 z1 z2 n1 n2 pr sz kp => ?_
    refine ⟨_, rfl, wpAny_letOwnedTupleGo_zip (s := { s with heap := h', toks := tk }) z1 fun h'' z3 sb => ?_⟩
    have r1 : RelV u x1 := by
      obtain ⟨t, ht, r⟩ := ru.get gu
      have : ius.toArray[i]? = some t := by simpa using ht
      rw [e1] at this
      cases this
      exact r
    have r2 : RelV v x2 := by
      obtain ⟨t, ht, r⟩ := rv.get gv
      have : ivs.toArray[i]? = some t := by simpa using ht
      rw [e2] at this
      cases this
      exact r
    have made : ObjOk X.prog X.w (upd H s.heap.objs.size (.tup [u, v])) h'' s.heap.objs.size (.tup [u, v]) := by
      refine ⟨by show 2 ≤ sizeLine; decide, [x1, x2], .cons r1 (.cons r2 .nil), _, (sb.2 _ (Nat.ne_of_gt zl)).trans pr, rfl, _, rfl⟩
    have keep : ∀ c o, c ∉ [z, TI, TO, p, q] → s.heap.get? c = some o → h''.get? c = some o := fun c o hc e => by
      simp only [List.mem_cons, List.not_mem_nil, or_false, not_or] at hc
      exact (sb.2 c hc.1).trans (kp c o hc.1 hc.2.2.1 hc.2.2.2.1 hc.2.2.2.2 e)
    refine ⟨.ref s.heap.objs.size, _, I.turnedNew (t' := tk) keep fr (Nat.le_refl _) made, rfl, ⟨_, u, v, rfl, I.hok.fresh (Nat.le_refl _), rfl, fun l hl => ?_, fun l hl => ?_⟩, ⟨⟨z3, ?_⟩, ⟨x1, x2, ?_⟩, ?_, ?_⟩, fun c hc => ?_⟩
    · rw [I.tuple_inj hl su]
      exact gu
    · rw [I.list_inj hl sv]
      exact gv
    · exact (sb.2 TI D.TIz).trans (kp TI _ D.TIz D.TITO D.TIi1 D.TIi2 y2)
    · exact (sb.2 TO D.TOz).trans z2
    · exact n1.1.at fun o e => (sb.2 p D.i1z).trans e
    · exact n2.1.at fun o e => (sb.2 q D.i2z).trans e
    · have cl : c < s.heap.objs.size := by
        rcases five hc with e | e | e | e | e <;> subst e
        · exact zl
        · exact Heap.lt_size y2
        · exact Heap.lt_size y3
        · exact Heap.lt_size y4.choose_spec.1
        · exact Heap.lt_size y5.choose_spec.1
      rw [upd_ne (Nat.ne_of_lt cl)]
      exact (fr c hc).1
  done := by
    intro X hP hw hK calm i pins s σ H E I fr at_ hst
    subst hP hw hK
    obtain ⟨⟨y1, y2⟩, ⟨u0, v0, y3⟩, y4, y5⟩ := at_
    obtain ⟨us, vs, su, sv, end_, b1, b2⟩ := hst
    obtain ⟨ius, ru, tu, _⟩ := I.tuple su
    obtain ⟨ivs, rv, lv, _⟩ := I.list sv
    have lu := ru.length
    have lv' := rv.length
    have hh : X.A.in1.handled = none := I.ok.hd calm
    refine wpAny_pyNext_zipD2_end (i := i) (zm_sep D) (Draws.tuple hh p a D.l1i1 ius.toArray) (Draws.list hh q b D.l2i2 ivs.toArray) y1 y2 y3 ⟨y4, tu⟩ ⟨y5, lv.isList⟩ (by simp; omega) (by simp; omega) (by simp; omega) fun h' tk kp => ⟨rfl, ?_⟩
    refine I.turnedL (t' := tk) (ch := [z, TI, TO, p, q]) (fun c o hc e => ?_) fr
    simp only [List.mem_cons, List.not_mem_nil, or_false, not_or] at hc
    exact kp c o hc.1 hc.2.2.1 hc.2.2.2.1 hc.2.2.2.2 e
  self := fun A i s Q E st h => wpAny_pyIter_zip st.1.1 h
/-! ### the walk is made -/
section
open PySem.Sem
abbrev oIt1 (a : Addr) : Obj := { cls := .type "tuple_iterator", data := .fields #[.ref a, .int 0 0] }
abbrev oIt2 (b : Addr) : Obj := { cls := .type "list_iterator", data := .fields #[.ref b, .int 0 0] }
abbrev oTwo (x y : Value) : Obj := { cls := .type "tuple", data := .seq #[x, y] }
abbrev oZip (x y : Addr) : Obj := { cls := .type "zip", data := .fields #[.none, .bool false, .bool false, .ref x, .ref y] }
abbrev zmA (h : Heap) (a : Addr) : Heap := h.push (oIt1 a)
abbrev zmB (h : Heap) (a b : Addr) : Heap := (zmA h a).push (oIt2 b)
abbrev zmC (h : Heap) (a b : Addr) : Heap := (zmB h a b).push (oTwo (.ref h.objs.size) (.ref (zmA h a).objs.size))
abbrev zmD (h : Heap) (a b : Addr) : Heap := (zmC h a b).push (oTwo .none .none)
/-- the heap behind zip(t, l) -/
abbrev zmE (h : Heap) (a b : Addr) : Heap := (zmD h a b).push (oZip (zmB h a b).objs.size (zmC h a b).objs.size)
theorem zm_made (a b : Addr) (us vs : Array Value) : Meets (Builtin.«zip.__new__» ⟨[.type "zip", .ref a, .ref b], []⟩) (fun _ R s => s.heap.IsTuple a us ∧ s.heap.IsList b vs ∧ R (.ok (.ret (.ref (zmD s.heap a b).objs.size))) { s with heap := zmE s.heap a b }) := by
  refine .of_wp fun prog w A R s h => ?_
  obtain ⟨hp, gs, dr, tk, os⟩ := s
  obtain ⟨g1, g2, h⟩ := h
  have isz := sub_zip
  have t1 : Heap.IsTuple (Shared.heap ⟨hp, gs, dr, tk, os⟩) a us := g1
  have t2 : Heap.IsList (Shared.heap ⟨hp.push (oIt1 a), gs, dr, tk, os⟩) b vs := g2.push _
  wp_walk using wpAny_pyIter_tuple t1, wpAny_pyIter_list t2
  exact ⟨_, rfl, h⟩
/-- zip(t, l): five new cells, the walk at its start -/
theorem zm_call {prog : Program} {w : World} {A : Around} {E : Value → Shared → Prop} {s : Shared} {a b : Addr} {us vs : Array Value} {Q : Value → Shared → Prop} (g1 : s.heap.IsTuple a us) (g2 : s.heap.IsList b vs)
    (k : ∀ h', ZmAt (s.heap.objs.size + 4) (s.heap.objs.size + 2) (s.heap.objs.size + 3) s.heap.objs.size (s.heap.objs.size + 1) a b 0 h' → (∀ c o, s.heap.get? c = some o → h'.get? c = some o) → Q (.ref (s.heap.objs.size + 4)) { s with heap := h' }) :
    wpAny (model prog w) A (call (.type "zip") [.ref a, .ref b]) Q E s := by
  refine callType_new F.called_zip (by decide) (F.typeCall_zip_2 _ _) (F.newCall_zip_2 _ _) (fun obj => F.args_object_init_3 obj _ _) F.entry_zip_new (zm_made a b us vs) ⟨g1, g2, ?_⟩
  have nA : (zmA s.heap a).objs.size = s.heap.objs.size + 1 := Heap.size_push ..
  have nB : (zmB s.heap a b).objs.size = s.heap.objs.size + 2 := (Heap.size_push ..).trans (by rw [nA])
  have nC : (zmC s.heap a b).objs.size = s.heap.objs.size + 3 := (Heap.size_push ..).trans (by rw [nB])
  have nD : (zmD s.heap a b).objs.size = s.heap.objs.size + 4 := (Heap.size_push ..).trans (by rw [nC])
  have up1 : ∀ c o, (zmA s.heap a).get? c = some o → (zmE s.heap a b).get? c = some o := fun c o e => Heap.get?_push_of_some _ (Heap.get?_push_of_some _ (Heap.get?_push_of_some _ (Heap.get?_push_of_some _ e)))
  have c1 : (zmE s.heap a b).get? s.heap.objs.size = some (oIt1 a) := up1 _ _ (Heap.get?_push_size _ rfl)
  have c2 : (zmE s.heap a b).get? (s.heap.objs.size + 1) = some (oIt2 b) := by
    rw [← nA]
    exact Heap.get?_push_of_some _ (Heap.get?_push_of_some _ (Heap.get?_push_of_some _ (Heap.get?_push_size _ rfl)))
  have c3 : (zmE s.heap a b).get? (s.heap.objs.size + 2) = some (oTwo (.ref s.heap.objs.size) (.ref (s.heap.objs.size + 1))) := by
    rw [← nB, ← nA]
    exact Heap.get?_push_of_some _ (Heap.get?_push_of_some _ (Heap.get?_push_size _ rfl))
  have c4 : (zmE s.heap a b).get? (s.heap.objs.size + 3) = some (oTwo .none .none) := by
    rw [← nC]
    exact Heap.get?_push_of_some _ (Heap.get?_push_size _ rfl)
  have c5 : (zmE s.heap a b).get? (s.heap.objs.size + 4) = some (oZip (s.heap.objs.size + 2) (s.heap.objs.size + 3)) := by
    rw [← nD, ← nB, ← nC]
    exact Heap.get?_push_size _ rfl
  show _ ∧ _
  rw [nD]
  exact ⟨⟨_, c5, rfl⟩, k _ ⟨⟨c5, c3⟩, ⟨_, _, c4⟩, ⟨_, c1, rfl, rfl⟩, ⟨_, c2, rfl, rfl⟩⟩ fun c o e => up1 c o (Heap.get?_push_of_some _ e)⟩
end
def iZm (K : PySem.W.Frag) (ta : TA) : TI := fun σ H R => ta σ H fun rs H1 => ∃ a b us vs, rs = [.ref a, .ref b] ∧ SqT K H1 a us ∧ SqL K H1 b vs ∧ R (Zm K a b) H1
theorem pi_zipTL {X : Cx} {e e2 : Expr} {ta : TA} {p pos tpos : Pos} {elts : List Expr} {kk : Nat} (hg : Gl X "zip") (hm : X.mg "zip" = none) (ha : PA X [e, e2] ta) (hs : starEach [e, e2] X.env = (false, eval e X.env) :: starEach [e2] X.env := by rfl)
    (hpl : (backTo pos (starEach [e2] X.env)).any (·.1) = false := by rfl) : PI X (.Tuple elts kk tpos) (.Call (.Name "zip" p) [e, e2] [] pos) (iZm X.K ta) := by
  refine ⟨fun pins s σ H R I h => ?_⟩
  refine Call_ (ld_blt I hg hm PyProof.Rows.boot_zip (PyProof.Rows.callWith_type1 (thn (ha.run pos pins s σ H _ I h) fun us s1 ⟨rs, H1, I1, r1, q0⟩ => ?_) hs hpl))
  obtain ⟨a, b, ys, zs, e3, q1, q2, q⟩ := q0
  subst e3
  cases r1 with
  | cons ra rs =>
    cases ra
    cases rs with
    | cons rb rt =>
      cases rb
      cases rt
      obtain ⟨ius, _, tu, _⟩ := I1.tuple q1
      obtain ⟨ivs, _, lv, _⟩ := I1.list q2
      obtain ⟨ot, ht, _⟩ := id tu
      refine zm_call (show s1.heap.IsTuple a ius.toArray from tu) lv.isList fun h' st kp => wpAny_pyIter_zip st.1.1 ?_
      refine ⟨s1.heap.objs.size + 4, [s1.heap.objs.size + 4, s1.heap.objs.size + 2, s1.heap.objs.size + 3, s1.heap.objs.size, s1.heap.objs.size + 1], ZmAt (s1.heap.objs.size + 4) (s1.heap.objs.size + 2) (s1.heap.objs.size + 3) s1.heap.objs.size (s1.heap.objs.size + 1) a b, Zm X.K a b, H1, rfl, I1.kept (t' := s1.toks) kp, zm_turn (PySem.W.ktu_apart s1.heap.objs.size a b (Heap.lt_size ht) lv.lt), st, fun c hc => ?_, q⟩
      have le : s1.heap.objs.size ≤ c := by
        rcases five hc with e | e | e | e | e <;> rw [e]
        · exact Nat.le_add_right _ _
        · exact Nat.le_add_right _ _
        · exact Nat.le_add_right _ _
        · exact Nat.le_refl _
        · exact Nat.le_add_right _ _
      exact I1.fpOk le (I1.hok.fresh le)
theorem walk_zm {K : PySem.W.Frag} {a b : Addr} {us vs : List V} {n : Nat} (hn : n = min us.length vs.length) : Walk (Zm K a b) n (fun H => SqT K H a us ∧ SqL K H b vs) (YPair (fun i => us[i]?) (fun i => vs[i]?)) where
  goes := fun i H hi g => by
    have h1 : i < us.length := by omega
    have h2 : i < vs.length := by omega
    exact ⟨us, vs, us[i], vs[i], g.1, g.2, List.getElem?_eq_getElem h1, List.getElem?_eq_getElem h2⟩
  stops := fun H g => ⟨us, vs, g.1, g.2, by omega, by omega, by omega⟩
  yields := fun i H x H' _ g y => by
    obtain ⟨T, u, v, h1, h2, h3, h4, h5⟩ := y
    exact ⟨T, u, v, h1, h2, h3, h4 us g.1, h5 vs g.2⟩
end KP
set_option Elab.async false
set_option linter.all false
set_option maxRecDepth 100000
set_option maxHeartbeats 400000
/-! xs[lo:hi:st] of a list. -/
namespace KP
open PySem PySem.Spec PyProof.Rows L2 Evl
/-- the items of xs[lo:hi:st] -/
def pickV (xs : List V) (lo hi st : Option Int) : List V := (sliceRange (sliceBounds lo hi st xs.length).1 (sliceBounds lo hi st xs.length).2.1 (sliceBounds lo hi st xs.length).2.2).filterMap (xs[·]?)
theorem vals_pick {xs : List V} {us : List Value} (r : Vals xs us) : ∀ ns : List Nat, Vals (ns.filterMap (xs[·]?)) (ns.filterMap (us[·]?))
  | [] => .nil
  | n :: ns => by
    have ih := vals_pick r ns
    cases h : xs[n]? with
    | none =>
      rw [List.filterMap_cons_none h, List.filterMap_cons_none (r.none_of h)]
      exact ih
    | some x =>
      obtain ⟨u, hu, ru⟩ := r.get h
      rw [List.filterMap_cons_some h, List.filterMap_cons_some hu]
      exact .cons ru ih
def tSl3 (K : PySem.W.Frag) (te : TE) (tl th ts : TO) : TE := fun σ H Q => te σ H fun x H1 => tl σ H1 fun lo H2 => th σ H2 fun hi H3 => ts σ H3 fun st H4 => ∃ a xs, x = .ref a ∧ SqL K H4 a xs ∧ st ≠ some 0 ∧ (pickV xs lo hi st).length ≤ sizeLine ∧ ∀ p, H4 p = none → Q (.ref p) (upd H4 p (.lst (pickV xs lo hi st)))
theorem pe_slice3 {X : Cx} {e est : Expr} {lo hi : Option Expr} {p2 pos : Pos} {te : TE} {tl th ts : TO} (he : PE X e te) (hl : PO X lo tl) (hu : PO X hi th) (hs : PO X (some est) ts) (ht : ∀ o r, letTemporaryGo e o r = pure () := by intro _ _; rfl) :
    PE X (.Subscript e (.Slice lo hi (some est) p2) pos) (tSl3 X.K te tl th ts) := by
  refine ⟨fun pins s σ H Q I h => ?_⟩
  refine wpAny_Subscript_Slice_step (T := "list") slot_list_getitem.lookup (thn (he.run pins s σ H _ I h) fun v s1 ⟨x, H1, I1, r1, q1⟩ => ?_) ht
  refine wpAny_Slice (thn (hl.run pins s1 σ H1 _ I1 q1) fun vl s2 ⟨l, H2, I2, pl, q2⟩ => thn (hu.run pins s2 σ H2 _ I2 q2) fun vu s3 ⟨u, H3, I3, pu, q3⟩ => thn (hs.run pins s3 σ H3 _ I3 q3) fun vt s4 ⟨st, H4, I4, pt, q4⟩ => ?_)
  obtain ⟨a, xs, rfl, hx, h0, hz, q⟩ := q4
  cases r1
  have I5 : Inv X pins σ H4 { s4 with heap := s4.heap.push { cls := .type "slice", data := .fields #[vl, vu, vt] } } := I4.kept (t' := s4.toks) fun b ob w => Heap.get?_push_of_some _ w
  obtain ⟨its, r, lt, hsz⟩ := I5.list hx
  have hlen := r.length
  refine ⟨lt.isList.typeIs, wpAny_getItem_list_slice lt.isList (Heap.IsSliceOf.new ..) pl pu pt h0 ?_ (by rw [List.size_toArray]; omega)⟩
  have e1 : slicePick its.toArray l u st = ((sliceRange (sliceBounds l u st xs.length).1 (sliceBounds l u st xs.length).2.1 (sliceBounds l u st xs.length).2.2).filterMap (its[·]?)).toArray := by
    unfold slicePick
    rw [List.size_toArray, ← hlen]
    congr 1
    refine congrArg (fun f => List.filterMap f _) (funext fun n => ?_)
    simp
  rw [e1]
  refine ⟨.ref _, _, I5.laid (t' := s4.toks) (o := .lst (pickV xs l u st)) (fun b ob w => Heap.get?_push_of_some _ w) (Nat.le_refl _) ?_, rfl, q _ (I5.hok.fresh (Nat.le_refl _))⟩
  exact ⟨hz, _, 0, vals_pick r _, Heap.get?_push_size _ rfl⟩
end KP
set_option Elab.async false
set_option linter.all false
set_option maxRecDepth 100000
set_option maxHeartbeats 400000
/-! faults.py: each def hands back what the mathematics' word of it says. -/
namespace KP
open PySem PySem.Spec PyProof.Rows L2 Evl
/-- the tables of the top -/
structure Tabs (K : PySem.W.Frag) (w : World) (mg : Str → Option Value) (dR dC dM tO : Addr) : Prop where
  gR : mg "ROLES" = some (.ref dR)
  gC : mg "WORD_COUNTS" = some (.ref dC)
  gM : mg "MOST" = some (.ref dM)
  gO : mg "OF_AN_ACT" = some (.ref tO)
  noF : ∃ t, mg "NO_FAULT" = some (.int 0 t)
  roles : ∀ f, (countsOf f).isSome = true → ∃ t, KDct K w dR (S f) (.ref t) ∧ ∀ H, SqT K H t (txts (rolesOf f))
  dictC : ∃ es n, KDict K w dC es n
  hasC : ∀ f, ∃ r, PySem.W.nsIn K dC (S f) = some r ∧ r.isSome = (countsOf f).isSome
  counts : ∀ f c, countsOf f = some c → ∃ t, KDct K w dC (S f) (.ref t) ∧ ∀ H, SqT K H t (c.map fun n : Nat => V.int (n : Int))
  most : ∀ f, (countsOf f).isSome = true → KDct K w dM (S f) (.int (mostOf f : Nat))
  ofAct : ∀ H, SqT K H tO (txts [kNeeds, kBars, kBrings, kTakes])
theorem pe_gref {X : Cx} {x : Str} {a : Addr} {pos : Pos} (h : X.mg x = some (.ref a)) (hg : Gl X x) (hd : (x == ("__debug__" : Str)) = false := by decide) : PE X (.Name x pos) (tC (.ref a)) := pe_glob hg h rfl hd
/-- [e for x in xs], the value told by what stands beside x -/
theorem el_p2 {α β : Type} {R : α → β → Prop} {as : List α} {bs : List β} {σ : L2.St} {F : Hp} {wi : TI} {te : TE} {c : α → V} {f : β → V} {j : Nat} {vs : List Nat} (d : β) (p : P2 R as bs) (G : GoesN wi σ F as.length (YAt (as.map c))) (hn : as.length ≤ 40000) (hw : ∀ x, wipe ((wipe σ vs).set j (some x)) vs = wipe σ vs)
    (he : ∀ a ∈ as, ∀ b ∈ bs, R a b → Ev te ((wipe σ vs).set j (some (c a))) F (f b)) : EvL (tLc wi (gName j) tYes te vs) σ F (bs.map f) := by
  have hl := p.length
  rw [← given_all bs d f, ← hl]
  refine el_it G hn _ _ fun i x H H' hi e y Q q => ?_
  obtain ⟨rfl, hx⟩ := y
  have h1 : as[i]? = some as[i] := List.getElem?_eq_getElem hi
  obtain ⟨b, h2, r⟩ := p.geta h1
  rw [List.getElem?_map, h1] at hx
  have hx2 : c as[i] = x := Option.some.inj hx
  subst hx2
  have h3 : bs.getD i d = b := by
    rw [List.getD_eq_getElem?_getD, h2]
    rfl
  refine q _ H' (Ex.refl _) (hw _) (fun H1 _ _ z => z H1 (Ex.refl H1)) fun _ => ?_
  rw [h3]
  exact he _ (List.mem_of_getElem? h1) _ (List.mem_of_getElem? h2) r
section
variable {K : PySem.W.Frag} {mg : Str → Option Value} {P : Program} {w : World} {base : Heap} {CT CA dR dC dM tO : Addr}
/-! ### is_place_of_an_act -/
abbrev s_is_place_of_an_act : Stmt := top 52
theorem sc_is_place_of_an_act : FnScope ["text", "name", "act"] ["text", "name"] (defScope s_is_place_of_an_act) := ⟨rfl, rfl, rfl, by decide +kernel, rfl, by decide +kernel, by decide +kernel⟩
def sp_is_place (CT CA : Addr) : Sp := fun vs H Q _ => ∃ (A : TextA) (x : Pn16.Text) (n : List Nat), vs = [.ref A.a, .str (S n)] ∧ TextAt CT CA H A x ∧ x.acts.length ≤ 4 ∧ ∀ H2, Ex H H2 → Q (.bl (isPlace x n)) H2
/-- the acts walked -/
theorem goes_acts {σ : L2.St} {F : Hp} {A : TextA} {x : Pn16.Text} {ta : TE} (T : TextAt CT CA F A x) (C : Clss K CT CA) (ha : Ev ta σ F (.ref A.a)) : Goes (iList K (tFld K ta "acts")) σ F A.as.length (YAt (A.as.map fun q => V.ref q.b)) := by
  have h := goes_list (K := K) (ev_acts T C ha) (sq_of T.acts)
  rw [List.length_map] at h
  exact h
theorem p2_any {α β : Type} {R : α → β → Prop} {f : α → Bool} {g : β → Bool} (h : ∀ a b, R a b → f a = g b) : ∀ {as : List α} {bs : List β}, P2 R as bs → as.map f = bs.map g
  | _, _, .nil => rfl
  | _, _, .cons r t => by rw [List.map_cons, List.map_cons, h _ _ r, p2_any h t]
/-- an act by its place: what an expression over it comes to -/
theorem act_pick {F : Hp} {A : TextA} {x : Pn16.Text} (T : TextAt CT CA F A x) {B : ActA} (hB : B ∈ A.as) : ∃ s ∈ x.acts, ActAt CA F x B s := P2.mem T.as hB
theorem has_is_place {f : Addr} {fd : FuncData} (F : Fun K "is_place_of_an_act" "is_place_of_an_act" s_is_place_of_an_act f fd) (O : Own mg) (C : Clss K CT CA) (g : mg "is_place_of_an_act" = some (.ref f)) : Has P w K mg base 1 "is_place_of_an_act" ["text", "name"] (sp_is_place CT CA) := by
  refine ⟨f, fd, F.ok sc_is_place_of_an_act (fun vs H Q E h => ?_) (fun cdv A outer s H vs Q E hr h => ?_), g, F.kp, F.binds fun _ _ _ _ _ _ us hl => match us, hl with | [_, _], _ => rfl⟩
  · obtain ⟨_, _, _, rfl, _⟩ := h
    rfl
  · obtain ⟨A, x, n, rfl, T, hn, q⟩ := h
    refine ⟨_, (pss_one (ps_ret (pe_callB (cr_any rfl) (by rfl) O.any (by decide +kernel) (pa_cons (pe_lc (own := [("act", 2)]) (g := gName 2) (tt := tYes) (te := tOp (rIn K false) (tVar 1) (tFld K (tVar 2) "places")) rfl sc_is_place_of_an_act.nd (pi_list (pe_fld (pv 0) rfl)) (blkOk_by (N := ["text", "name", "act"]) (sc := defScope s_is_place_of_an_act) (by decide +kernel)) (fun _ _ _ _ _ => (pg_name (i := 2) sc_is_place_of_an_act.nd rfl (Or.inl rfl))) (fun _ _ _ _ _ => pts_nil) (fun _ _ _ _ _ => (pe_cmpR op_in_seq (pv 1) (pe_fld (pv 2) (by rfl)) (by rfl)))) pa_nil)))), ?_⟩
    have hl := T.as.length
    refine s_ret (ev_any (K := K) (bs := x.acts.map fun s => (Pn16.names s.places).contains n) ?_) fun H2 e2 => ?_
    · rw [List.map_map]
      have hgo := goes_acts (K := K) T C (σ := start ["text", "name", "act"] [.ref A.a, .str (S n)]) (ta := tVar 0) (ev_var rfl)
      exact el_p2 Pn16.none_ (c := fun q : ActA => V.ref q.b) T.as hgo.new (by omega) (fun _ => rfl) fun B _ s _ TB => ev_inL (K := K) (w := n) (ev_var rfl) (ev_aplaces TB C (ev_var rfl)) (sq_of TB.places)
    · rw [List.any_map]
      exact q H2 e2
/-! ### has_wrong_places -/
abbrev s_has_wrong_places : Stmt := top 53
theorem sc_has_wrong_places : FnScope ["text", "places", "place"] ["text", "places"] (defScope s_has_wrong_places) := ⟨rfl, rfl, rfl, by decide +kernel, rfl, by decide +kernel, by decide +kernel⟩
def sp_has_wrong_places (K : PySem.W.Frag) (CT CA : Addr) : Sp := fun vs H Q _ => ∃ (A : TextA) (x : Pn16.Text) (p : Addr) (ps : List (List Nat)), vs = [.ref A.a, .ref p] ∧ TextAt CT CA H A x ∧ SqL K H p (txts ps) ∧ ps.length ≤ 1500 ∧ ∀ H2, Ex H H2 → Q (.bl (wrongPlaces x ps)) H2
theorem has_has_wrong_places {f : Addr} {fd : FuncData} (F : Fun K "has_wrong_places" "has_wrong_places" s_has_wrong_places f fd) (O : Own mg) (C : Clss K CT CA) (g : mg "has_wrong_places" = some (.ref f)) : Has P w K mg base 1 "has_wrong_places" ["text", "places"] (sp_has_wrong_places K CT CA) := by
  refine ⟨f, fd, F.ok sc_has_wrong_places (fun vs H Q E h => ?_) (fun cdv A outer s H vs Q E hr h => ?_), g, F.kp, F.binds fun _ _ _ _ _ _ us hl => match us, hl with | [_, _], _ => rfl⟩
  · obtain ⟨_, _, _, _, rfl, _⟩ := h
    rfl
  · obtain ⟨A, x, p, ps, rfl, T, hp, hz, q⟩ := h
    refine ⟨_, (pss_cons (ps_if (PW.pt (pw_and (pt_cmpR op_eq (pe_callB call_len_seq (by rfl) O.len (by decide +kernel) (pa_cons (pv 1) pa_nil)) pe_int (nomark _)) (pw_and1 (pt_cmpR op_eq (pe_ix ix_list (pv 1) pe_int (fun _ _ => rfl)) (pe_ix ix_list (pv 1) pe_int (fun _ _ => rfl)) (nomark _))))) (pss_one (ps_ret pe_bl)) pss_nil)
      (pss_one (ps_ret (pe_callB (cr_any rfl) (by rfl) O.any (by decide +kernel) (pa_cons (pe_lc (own := [("place", 2)]) (g := gName 2) (tt := tYes) (te := tOp (rIn K false) (tVar 2) (tFld K (tVar 0) "things")) rfl sc_has_wrong_places.nd (pi_list (pv 1)) (blkOk_by (N := ["text", "places", "place"]) (sc := defScope s_has_wrong_places) (by decide +kernel)) (fun _ _ _ _ _ => (pg_name (i := 2) sc_has_wrong_places.nd rfl (Or.inl rfl))) (fun _ _ _ _ _ => pts_nil) (fun _ _ _ _ _ => (pe_cmpR op_in_seq (pv 2) (pe_fld (pv 0) (by rfl)) (by rfl)))) pa_nil))))), ?_⟩
    have et : EvT (tAnd (tTest (tOp rEq (tCB (rLenS K) (tCons (tVar 1) tNil)) (tC (.int 2)))) (tTest (tOp rEq (tOp (rIxL K) (tVar 1) (tC (.int 0))) (tOp (rIxL K) (tVar 1) (tC (.int 1)))))) (start ["text", "places", "place"] [.ref A.a, .ref p]) H (decide (ps.length = 2) && decide (ps[0]? = ps[1]?)) := by
      refine et_and (et_is (et_eqI (ev_len (K := K) (ev_var rfl) hp) ev_c) ?_) fun c => ?_
      · rw [List.length_map, decide_eq_decide]
        omega
      · have h2 := of_decide_eq_true c
        match ps, h2 with
        | [a, b], _ =>
          refine et_is (et_eqS (ev_txt (K := K) (i := 0) (w := a) (ev_var rfl) ev_c hp rfl) (ev_txt (K := K) (i := 1) (w := b) (ev_var rfl) ev_c hp rfl)) ?_
          rw [S_eq, decide_eq_decide]
          simp
    refine q_when et (fun c H1 e1 => s_ret ev_c fun H2 e2 => ?_) (fun c H1 e1 => ?_)
    · have z := q H2 (e1.trans e2)
      unfold wrongPlaces at z
      rw [c, Bool.true_or] at z
      exact z
    · have T1 := T.mono e1
      refine s_ret (ev_any (K := K) (bs := ps.map fun w => (Pn16.names x.things).contains w) ?_) fun H2 e2 => ?_
      · rw [List.map_map]
        have hgo := goes_list (σ := start ["text", "places", "place"] [.ref A.a, .ref p]) (F := H1) (K := K) (tl := tVar 1) (ev_var rfl) (ex_l e1 hp)
        rw [List.length_map] at hgo
        exact el_map [] (c := fun w => V.str (S w)) hgo.new (by omega) (fun _ => rfl) fun w _ => ev_inL (K := K) (w := w) (ev_var rfl) (ev_things T1 C (ev_var rfl)) (sq_of T1.things)
      · have z := q H2 (e1.trans e2)
        unfold wrongPlaces at z
        rw [c, Bool.false_or] at z
        rw [List.any_map]
        exact z
/-! ### is_there -/
abbrev s_is_there : Stmt := top 55
theorem sc_is_there : FnScope ["text", "role", "word"] ["text", "role", "word"] (defScope s_is_there) := ⟨rfl, rfl, rfl, by decide +kernel, rfl, by decide +kernel, by decide +kernel⟩
def sp_is_there (CT CA : Addr) : Sp := fun vs H Q _ => ∃ (A : TextA) (x : Pn16.Text) (r v : List Nat), vs = [.ref A.a, .str (S r), .str (S v)] ∧ TextAt CT CA H A x ∧ ∀ H2, Ex H H2 → Q (.bl (isThere x r v)) H2
theorem has_is_there {f : Addr} {fd : FuncData} (F : Fun K "is_there" "is_there" s_is_there f fd) (O : Own mg) (C : Clss K CT CA) (g : mg "is_there" = some (.ref f)) (h_last_places : Has P w K mg base 1 "last_places" ["text"] (sp_last_places K CT CA)) : Has P w K mg base 2 "is_there" ["text", "role", "word"] (sp_is_there CT CA) := by
  refine ⟨f, fd, F.ok sc_is_there (fun vs H Q E h => ?_) (fun cdv A outer s H vs Q E hr h => ?_), g, F.kp, F.binds fun _ _ _ _ _ _ us hl => match us, hl with | [_, _, _], _ => rfl⟩
  · obtain ⟨_, _, _, _, rfl, _⟩ := h
    rfl
  · obtain ⟨A, x, r, v, rfl, T, q⟩ := h
    refine ⟨_, (pss_cons (ps_if (pt_cmpR op_eq (pv 1) pe_str (nomark _)) (pss_one (ps_ret (pe_cmpR op_in_seq (pv 2) (pe_fld (pv 0) rfl) (by rfl)))) pss_nil)
      (pss_cons (ps_if (pt_cmpR op_eq (pv 1) pe_str (nomark _)) (pss_one (ps_ret (pe_cmpR op_in_seq (pv 2) (pe_fld (pv 0) rfl) (by rfl)))) pss_nil)
      (pss_cons (ps_if (pt_cmpR op_eq (pv 1) pe_str (nomark _)) (pss_one (ps_ret (pe_cmpR op_in_seq (pv 2) (pe_fld (pv 0) rfl) (by rfl)))) pss_nil)
      (pss_cons (ps_if (pt_cmpR op_eq (pv 1) pe_str (nomark _)) (pss_one (ps_ret (pe_or (pe_cmpR op_in_seq (pv 2) (pe_fld (pv 0) rfl) (by rfl)) (pe_one (pe_cmpR op_in_seq (pv 2) (pe_own h_last_places (hr.mono (by decide)) rfl (pa_cons (pv 0) pa_nil)) (by rfl)))))) pss_nil)
      (pss_one (ps_ret pe_bl)))))), ?_⟩
    refine q_when (et_key key_kind (ev_var rfl)) (fun c H1 e1 => ?_) (fun c1 H1 e1 => ?_)
    · have T1 := T.mono e1
      refine s_ret (ev_inL (K := K) (w := v) (ev_var rfl) (ev_kinds T1 C (ev_var rfl)) (sq_of T1.kinds)) fun H2 e2 => ?_
      have z := q H2 (e1.trans e2)
      unfold isThere at z
      rw [if_pos (of_decide_eq_true c)] at z
      exact z
    have n1 := of_decide_eq_false c1
    refine q_when (et_key key_fact (ev_var rfl)) (fun c H2 e2 => ?_) (fun c2 H2 e2 => ?_)
    · have T1 := T.mono (e1.trans e2)
      refine s_ret (ev_inL (K := K) (w := v) (ev_var rfl) (ev_facts T1 C (ev_var rfl)) (sq_of T1.facts)) fun H3 e3 => ?_
      have z := q H3 ((e1.trans e2).trans e3)
      unfold isThere at z
      rw [if_neg n1, if_pos (of_decide_eq_true c)] at z
      exact z
    have n2 := of_decide_eq_false c2
    refine q_when (et_key key_thing (ev_var rfl)) (fun c H3 e3 => ?_) (fun c3 H3 e3 => ?_)
    · have T1 := T.mono ((e1.trans e2).trans e3)
      refine s_ret (ev_inL (K := K) (w := v) (ev_var rfl) (ev_things T1 C (ev_var rfl)) (sq_of T1.things)) fun H4 e4 => ?_
      have z := q H4 (((e1.trans e2).trans e3).trans e4)
      unfold isThere at z
      rw [if_neg n1, if_neg n2, if_pos (of_decide_eq_true c)] at z
      exact z
    have n3 := of_decide_eq_false c3
    refine q_when (et_key key_argument (ev_var rfl)) (fun c H4 e4 => ?_) (fun c4 H4 e4 => ?_)
    · have T1 := T.mono (((e1.trans e2).trans e3).trans e4)
      refine s_ret (v := .bl ((Pn16.names x.things).contains v || (lastPlaces x).contains v)) (ev_orV (ev_inL (K := K) (w := v) (ev_var rfl) (ev_things T1 C (ev_var rfl)) (sq_of T1.things)) fun _ => ?_) fun H5 e5 => ?_
      · intro H5 e5 Q5 q5
        refine ⟨_, rfl, _, rfl, ?_⟩
        refine ⟨A, x, rfl, T1.mono e5, fun p H6 e6 hp => ?_⟩
        refine ⟨p, txts (lastPlaces x), rfl, .inl hp, rfl, flat_txts _, ?_⟩
        show Q5 (.bl (inV _ _)) H6
        rw [inV_txts]
        exact q5 H6 e6
      · have z := q H5 ((((e1.trans e2).trans e3).trans e4).trans e5)
        unfold isThere at z
        rw [if_neg n1, if_neg n2, if_neg n3, if_pos (of_decide_eq_true c)] at z
        exact z
    have n4 := of_decide_eq_false c4
    refine s_ret ev_c fun H5 e5 => ?_
    have z := q H5 ((((e1.trans e2).trans e3).trans e4).trans e5)
    unfold isThere at z
    rw [if_neg n1, if_neg n2, if_neg n3, if_neg n4] at z
    exact z
/-! ### kind_of -/
abbrev s_kind_of : Stmt := top 57
theorem sc_kind_of : FnScope ["text", "argument", "act"] ["text", "argument"] (defScope s_kind_of) := ⟨rfl, rfl, rfl, by decide +kernel, rfl, by decide +kernel, by decide +kernel⟩
def sp_kind_of (CT CA : Addr) : Sp := fun vs H Q _ => ∃ (A : TextA) (x : Pn16.Text) (v : List Nat), vs = [.ref A.a, .str (S v)] ∧ TextAt CT CA H A x ∧ ((Pn16.names x.things).contains v || (lastPlaces x).contains v) = true ∧ ∀ H2, Ex H H2 → Q (.str (S (argKind x v))) H2
theorem names_len {α : Type} (l : List (Pn16.Bytes × α)) : (Pn16.names l).length = l.length := by
  unfold Pn16.names
  rw [List.length_map]
theorem has_kind_of {f : Addr} {fd : FuncData} (F : Fun K "kind_of" "kind_of" s_kind_of f fd) (O : Own mg) (C : Clss K CT CA) (g : mg "kind_of" = some (.ref f)) : Has P w K mg base 1 "kind_of" ["text", "argument"] (sp_kind_of CT CA) := by
  refine ⟨f, fd, F.ok sc_kind_of (fun vs H Q E h => ?_) (fun cdv A outer s H vs Q E hr h => ?_), g, F.kp, F.binds fun _ _ _ _ _ _ us hl => match us, hl with | [_, _], _ => rfl⟩
  · obtain ⟨_, _, _, rfl, _⟩ := h
    rfl
  · obtain ⟨A, x, v, rfl, T, hv, q⟩ := h
    refine ⟨_, (pss_cons (ps_if (pt_cmpR op_in_seq (pv 1) (pe_fld (pv 0) rfl) (by rfl)) (pss_one (ps_ret (pe_ix ix_list (pe_fld (pv 0) rfl) (pe_bm PySem.F.plainAttrs_list PySem.F.slot_list_index PySem.F.type_list_index mt_index (pe_fld (pv 0) rfl) (pa_cons (pv 1) pa_nil)) (fun _ _ => rfl)))) pss_nil)
      (pss_cons (ps_set (i := 2) sc_kind_of.nd rfl (Or.inl rfl) (pe_ix ix_list (pe_fld (pv 0) rfl) (pe_un un_neg pe_int) (fun _ _ => rfl)))
      (pss_one (ps_ret (pe_ix ix_list (pe_fld (pv 2) rfl) (pe_bm PySem.F.plainAttrs_list PySem.F.slot_list_index PySem.F.type_list_index mt_index (pe_fld (pv 2) rfl) (pa_cons (pv 1) pa_nil)) (fun _ _ => rfl)))))), ?_⟩
    refine q_when (et_test (ev_inL (K := K) (w := v) (ev_var rfl) (ev_things T C (ev_var rfl)) (sq_of T.things))) (fun c H1 e1 => ?_) (fun c H1 e1 => ?_)
    · have T1 := T.mono e1
      have hm := contains_iff.mp c
      have hlt : (Pn16.names x.things).idxOf v < x.things.length := by
        rw [← names_len]
        exact List.idxOf_lt_length_of_mem hm
      refine s_ret (ev_txt (K := K) (w := argKind x v) (ev_thingKinds T1 C (ev_var rfl)) (ev_index (K := K) (w := v) (ev_things T1 C (ev_var rfl)) (ev_var rfl) (sq_of T1.things) hm) (sq_of T1.thingKinds) ?_) fun H2 e2 => q H2 (e1.trans e2)
      rw [List.getElem?_map, List.getElem?_eq_getElem hlt]
      unfold argKind thingKind
      rw [c, if_pos rfl, List.getElem?_eq_getElem hlt] <;> rfl
    · rw [c, Bool.false_or] at hv
      have hx : ∃ s, x.acts.getLast? = some s := by
        cases e : x.acts.getLast? with
        | none =>
          unfold lastPlaces at hv
          rw [e] at hv
          cases hv
        | some s => exact ⟨s, rfl⟩
      obtain ⟨s, hs⟩ := hx
      have hp : v ∈ Pn16.names s.places := by
        unfold lastPlaces at hv
        rw [hs] at hv
        exact contains_iff.mp hv
      obtain ⟨as', B, eA, TB, _⟩ := T.last hs
      have hl := T.acts
      rw [eA, List.map_append] at hl
      have T1 := T.mono e1
      refine q_asg (ev_last (K := K) (ev_acts T1 C (ev_var rfl)) (sq_of (e1 _ _ hl))) fun H2 e2 => ?_
      have TB2 := TB.mono (e1.trans e2)
      have hlt : (Pn16.names s.places).idxOf v < s.places.length := by
        rw [← names_len]
        exact List.idxOf_lt_length_of_mem hp
      refine s_ret (ev_txt (K := K) (w := argKind x v) (ev_akinds TB2 C (ev_var rfl)) (ev_index (K := K) (w := v) (ev_aplaces TB2 C (ev_var rfl)) (ev_var rfl) (sq_of TB2.places) hp) (sq_of TB2.kinds) ?_) fun H3 e3 => q H3 ((e1.trans e2).trans e3)
      rw [List.getElem?_map, List.getElem?_eq_getElem hlt]
      unfold argKind
      rw [c, if_neg Bool.false_ne_true, hs]
      show some (kindName x (s.places[(Pn16.names s.places).idxOf v]).2) = some (kindName x (((s.places[(Pn16.names s.places).idxOf v]?).map fun p => p.2).getD 0))
      rw [List.getElem?_eq_getElem hlt] <;> rfl
/-! ### count_told -/
abbrev s_count_told : Stmt := top 58
theorem sc_count_told : FnScope ["text", "sort"] ["text", "sort"] (defScope s_count_told) := ⟨rfl, rfl, rfl, by decide +kernel, rfl, by decide +kernel, by decide +kernel⟩
def sp_count_told (CT CA : Addr) : Sp := fun vs H Q _ => ∃ (A : TextA) (x : Pn16.Text) (f : List Nat), vs = [.ref A.a, .str (S f)] ∧ TextAt CT CA H A x ∧ (countsOf f).isSome = true ∧ ∀ H2, Ex H H2 → Q (.int (countTold x f : Nat)) H2
theorem counts_sort {f : List Nat} (h : (countsOf f).isSome = true) : f = kKind ∨ f = kThing ∨ f = kFact ∨ f = kAct ∨ f = kNow ∨ f = kWant ∨ ofAct f = true := by
  unfold countsOf at h
  by_cases h1 : f = kKind
  · exact .inl h1
  by_cases h2 : f = kThing
  · exact .inr (.inl h2)
  by_cases h3 : f = kFact
  · exact .inr (.inr (.inl h3))
  by_cases h4 : f = kAct
  · exact .inr (.inr (.inr (.inl h4)))
  rw [if_neg h1, if_neg h2, if_neg h3, if_neg h4] at h
  by_cases h5 : f = kNeeds ∨ f = kBars ∨ f = kBrings ∨ f = kTakes ∨ f = kNow ∨ f = kWant
  · rcases h5 with h | h | h | h | h | h
    · exact .inr (.inr (.inr (.inr (.inr (.inr (decide_eq_true (.inl h)))))))
    · exact .inr (.inr (.inr (.inr (.inr (.inr (decide_eq_true (.inr (.inl h))))))))
    · exact .inr (.inr (.inr (.inr (.inr (.inr (decide_eq_true (.inr (.inr (.inl h)))))))))
    · exact .inr (.inr (.inr (.inr (.inr (.inr (decide_eq_true (.inr (.inr (.inr h)))))))))
    · exact .inr (.inr (.inr (.inr (.inl h))))
    · exact .inr (.inr (.inr (.inr (.inr (.inl h)))))
  · rw [if_neg h5] at h
    cases h
theorem has_count_told {f : Addr} {fd : FuncData} (F : Fun K "count_told" "count_told" s_count_told f fd) (O : Own mg) (C : Clss K CT CA) (g : mg "count_told" = some (.ref f)) (h_claims_of : Has P w K mg base 1 "claims_of" ["text", "sort"] (sp_claims_of CT CA)) : Has P w K mg base 2 "count_told" ["text", "sort"] (sp_count_told CT CA) := by
  refine ⟨f, fd, F.ok sc_count_told (fun vs H Q E h => ?_) (fun cdv A outer s H vs Q E hr h => ?_), g, F.kp, F.binds fun _ _ _ _ _ _ us hl => match us, hl with | [_, _], _ => rfl⟩
  · obtain ⟨_, _, _, rfl, _⟩ := h
    rfl
  · obtain ⟨A, x, k, rfl, T, hk, q⟩ := h
    refine ⟨_, (pss_cons (ps_if (pt_cmpR op_eq (pv 1) pe_str (nomark _)) (pss_one (ps_ret (pe_callB call_len_seq (by rfl) O.len (by decide +kernel) (pa_cons (pe_fld (pv 0) rfl) pa_nil)))) pss_nil)
      (pss_cons (ps_if (pt_cmpR op_eq (pv 1) pe_str (nomark _)) (pss_one (ps_ret (pe_callB call_len_seq (by rfl) O.len (by decide +kernel) (pa_cons (pe_fld (pv 0) rfl) pa_nil)))) pss_nil)
      (pss_cons (ps_if (pt_cmpR op_eq (pv 1) pe_str (nomark _)) (pss_one (ps_ret (pe_callB call_len_seq (by rfl) O.len (by decide +kernel) (pa_cons (pe_fld (pv 0) rfl) pa_nil)))) pss_nil)
      (pss_cons (ps_if (pt_cmpR op_eq (pv 1) pe_str (nomark _)) (pss_one (ps_ret (pe_callB call_len_seq (by rfl) O.len (by decide +kernel) (pa_cons (pe_fld (pv 0) rfl) pa_nil)))) pss_nil)
      (pss_one (ps_ret (pe_callB call_len_seq (by rfl) O.len (by decide +kernel) (pa_cons (pe_own h_claims_of (hr.mono (by decide)) rfl (pa_cons (pv 0) (pa_cons (pv 1) pa_nil))) pa_nil)))))))), ?_⟩
    have fin : ∀ {H2 : Hp} (n : Nat), Ex H H2 → countTold x k = n → Q (.int (n : Int)) H2 := fun n e2 en => by
      have z := q _ e2
      rw [en] at z
      exact z
    refine q_when (et_key key_kind (ev_var rfl)) (fun c H1 e1 => ?_) (fun c1 H1 e1 => ?_)
    · have T1 := T.mono e1
      refine s_ret (ev_len (K := K) (ev_kinds T1 C (ev_var rfl)) (sq_of T1.kinds)) fun H2 e2 => fin _ (e1.trans e2) ?_
      rw [of_decide_eq_true c, List.length_map] <;> rfl
    have n1 := of_decide_eq_false c1
    refine q_when (et_key key_thing (ev_var rfl)) (fun c H2 e2 => ?_) (fun c2 H2 e2 => ?_)
    · have T1 := T.mono (e1.trans e2)
      refine s_ret (ev_len (K := K) (ev_things T1 C (ev_var rfl)) (sq_of T1.things)) fun H3 e3 => fin _ ((e1.trans e2).trans e3) ?_
      rw [of_decide_eq_true c, List.length_map, names_len] <;> rfl
    have n2 := of_decide_eq_false c2
    refine q_when (et_key key_fact (ev_var rfl)) (fun c H3 e3 => ?_) (fun c3 H3 e3 => ?_)
    · have T1 := T.mono ((e1.trans e2).trans e3)
      refine s_ret (ev_len (K := K) (ev_facts T1 C (ev_var rfl)) (sq_of T1.facts)) fun H4 e4 => fin _ (((e1.trans e2).trans e3).trans e4) ?_
      rw [of_decide_eq_true c, List.length_map, names_len] <;> rfl
    have n3 := of_decide_eq_false c3
    refine q_when (et_key key_act (ev_var rfl)) (fun c H4 e4 => ?_) (fun c4 H4 e4 => ?_)
    · have T1 := T.mono (((e1.trans e2).trans e3).trans e4)
      refine s_ret (ev_len (K := K) (ev_acts T1 C (ev_var rfl)) (sq_of T1.acts)) fun H5 e5 => fin _ ((((e1.trans e2).trans e3).trans e4).trans e5) ?_
      rw [of_decide_eq_true c, List.length_map, T.as.length] <;> rfl
    have n4 := of_decide_eq_false c4
    have eH : Ex H H4 := ((e1.trans e2).trans e3).trans e4
    have hs : k = kNow ∨ k = kWant ∨ ofAct k = true := by
      rcases counts_sort hk with h | h | h | h | h | h | h
      · exact absurd h n1
      · exact absurd h n2
      · exact absurd h n3
      · exact absurd h n4
      · exact .inl h
      · exact .inr (.inl h)
      · exact .inr (.inr h)
    -- len(claims_of(text, sort))
    refine ⟨_, rfl, _, rfl, A, x, k, rfl, T.mono eH, hs, fun hk H5 e5 => ?_, fun hk H5 e5 => ?_, fun hf hx p H5 hp e5 h5 => ?_, fun hf as' B eA H5 e5 => ?_⟩
    · refine ⟨A.nw, A.ns.map V.ref, rfl, .inl (sq_of ((eH.trans e5) _ _ T.now)), fin _ (eH.trans e5) ?_⟩
      rw [hk, List.length_map, T.ns.length] <;> rfl
    · refine ⟨A.wt, A.ws.map V.ref, rfl, .inl (sq_of ((eH.trans e5) _ _ T.want)), fin _ (eH.trans e5) ?_⟩
      rw [hk, List.length_map, T.ws.length] <;> rfl
    · refine ⟨p, [], rfl, .inl (sq_of h5), fin _ (eH.trans e5) ?_⟩
      rw [(lits_which (x := x) hf).2.1, hx]
      unfold Pn16.litsOf
      split
      · rfl
      · split
        · rfl
        · split <;> rfl
    · have hne : ¬ x.acts = [] := fun e => by
        have := T.noActs.mpr e
        rw [eA] at this
        simp at this
      obtain ⟨s, hs⟩ : ∃ s, x.acts.getLast? = some s := by
        cases e : x.acts.getLast? with
        | none => exact absurd (List.getLast?_eq_none_iff.mp e) hne
        | some s => exact ⟨s, rfl⟩
      obtain ⟨as2, B2, eA2, TB, _⟩ := T.last hs
      have eB : B = B2 := by
        rw [eA] at eA2
        have := congrArg List.getLast? eA2
        simpa using this
      subst eB
      have cl := TB.claims (which k)
      refine ⟨_, _, rfl, .inl (sq_of ((eH.trans e5) _ _ cl.1)), fin _ (eH.trans e5) ?_⟩
      rw [(lits_which (x := x) hf).2.1, hs, List.length_map, cl.2.length] <;> rfl
end
end KP
set_option Elab.async false
set_option linter.all false
set_option maxRecDepth 100000
set_option maxHeartbeats 400000
namespace KP
open PySem PySem.Spec PyProof.Rows L2 Evl
section
variable {K : PySem.W.Frag} {mg : Str → Option Value} {P : Program} {w : World} {base : Heap} {CT CA dR dC dM tO : Addr}
/-- words of a line: not none, none of them empty, few and short -/
structure WordsOk (ws : List (List Nat)) : Prop where
  ne : ws ≠ []
  each : ∀ v ∈ ws, v ≠ [] ∧ v.length ≤ 1500
  few : ws.length ≤ 1500
theorem WordsOk.head {ws : List (List Nat)} (h : WordsOk ws) : ∃ f r, ws = f :: r := by
  cases ws with
  | nil => exact absurd rfl h.ne
  | cons f r => exact ⟨f, r, rfl⟩
/-! ### is_no_line -/
abbrev s_is_no_line : Stmt := top 49
theorem sc_is_no_line : FnScope ["words"] ["words"] (defScope s_is_no_line) := ⟨rfl, rfl, rfl, by decide +kernel, rfl, by decide +kernel, by decide +kernel⟩
def sp_is_no_line (K : PySem.W.Frag) : Sp := fun vs H Q _ => ∃ (p : Addr) (ws : List (List Nat)), vs = [.ref p] ∧ SqL K H p (txts ws) ∧ WordsOk ws ∧ ∀ H2, Ex H H2 → Q (.bl (noLine ws)) H2
theorem inV_nats (n : Nat) (c : List Nat) : inV (.int (n : Int)) (c.map fun n : Nat => V.int (n : Int)) = c.contains n := by
  unfold inV
  rw [List.any_map, Bool.eq_iff_iff, List.any_eq_true, List.contains_iff_mem]
  constructor
  · rintro ⟨m, hm, e⟩
    have e' : ((m : Int) == (n : Int)) = true := e
    have := eq_of_beq e'
    have e2 : m = n := by omega
    rw [← e2]
    exact hm
  · intro h
    exact ⟨n, h, show ((n : Int) == (n : Int)) = true from beq_self_eq_true _⟩
theorem has_is_no_line {f : Addr} {fd : FuncData} (F : Fun K "is_no_line" "is_no_line" s_is_no_line f fd) (O : Own mg) (B : Tabs K w mg dR dC dM tO) (g : mg "is_no_line" = some (.ref f)) : Has P w K mg base 1 "is_no_line" ["words"] (sp_is_no_line K) := by
  obtain ⟨es, n0, D⟩ := B.dictC
  refine ⟨f, fd, F.ok sc_is_no_line (fun vs H Q E h => ?_) (fun cdv A outer s H vs Q E hr h => ?_), g, F.kp, F.binds fun _ _ _ _ _ _ us hl => match us, hl with | [_], _ => rfl⟩
  · obtain ⟨_, _, rfl, _⟩ := h
    rfl
  · obtain ⟨p, ws, rfl, hp, W, q⟩ := h
    refine ⟨_, (pss_one (ps_ret (pe_or (pe_cmpR (op_notIn_kd D) (pe_ix ix_list (pv 0) pe_int (fun _ _ => rfl)) (pe_gref B.gC rfl) (by rfl)) (pe_one (pe_cmpR op_notIn_seq (pe_callB call_len_seq (by rfl) O.len (by decide +kernel) (pa_cons (pv 0) pa_nil)) (pe_ix ix_kdict (pe_gref B.gC rfl) (pe_ix ix_list (pv 0) pe_int (fun _ _ => rfl)) (fun _ _ => rfl)) (by rfl)))))), ?_⟩
    obtain ⟨k, r, rfl⟩ := W.head
    have hk : ∀ F, Ex H F → Ev (tOp (rIxL K) (tVar 0) (tC (.int 0))) (start ["words"] [.ref p]) F (.str (S k)) := fun F e => ev_txt (K := K) (i := 0) (w := k) (ev_var rfl) ev_c (ex_l e hp) rfl
    obtain ⟨v, hv, hs⟩ := B.hasC k
    refine s_ret (v := .bl (noLine (k :: r))) (ev_is (ev_orV (a := !v.isSome) (b := noLine (k :: r)) ?_ fun c => ?_) ?_) fun H2 e2 => q H2 e2
    · exact ev_op (hk H (Ex.refl H)) ev_c fun H1 _ _ z => ⟨S k, v, rfl, rfl, hv, z H1 (Ex.refl H1)⟩
    · have hsome : (countsOf k).isSome = true := by
        rw [← hs]
        simpa using c
      obtain ⟨cs, hcs⟩ := Option.isSome_iff_exists.mp hsome
      obtain ⟨t, kd, st⟩ := B.counts k cs hcs
      refine ev_op (x := .int ((k :: r).length : Nat)) (y := .ref t) (ev_is (ev_len (K := K) (ev_var rfl) hp) (by rw [List.length_map])) (ev_op ev_c (hk H (Ex.refl H)) fun H1 _ _ z => ⟨dC, S k, .ref t, rfl, rfl, kd, z H1 (Ex.refl H1)⟩) fun H1 e1 Q1 z => ⟨t, cs.map fun n : Nat => V.int (n : Int), rfl, .inr (st H1), rfl, ?_, ?_⟩
      · rw [List.all_map]
        exact List.all_eq_true.mpr fun _ _ => rfl
      · show Q1 (.bl (!inV _ _)) H1
        rw [inV_nats]
        have : noLine (k :: r) = !cs.contains (k :: r).length := by
          show (match countsOf k with | none => true | some c => !c.contains (k :: r).length) = _
          rw [hcs]
        rw [← this]
        exact z H1 (Ex.refl H1)
    · show V.bl _ = V.bl _
      congr 1
      cases h : (countsOf k).isSome with
      | true =>
        rw [hs, h] <;> rfl
      | false =>
        rw [hs, h]
        have hn : countsOf k = none := by
          cases e : countsOf k with
          | none => rfl
          | some c =>
            rw [e] at h
            cases h
        show (true || noLine (k :: r)) = noLine (k :: r)
        have : noLine (k :: r) = true := by
          show (match countsOf k with | none => true | some c => !c.contains (k :: r).length) = true
          rw [hn]
        rw [this] <;> rfl
/-! ### the walk over roles and words -/
theorem cut1 (xs : List V) : cutV xs (some 1) none = xs.drop 1 := by
  unfold cutV
  rw [show HT.sIx xs.length 0 (some 1) = min 1 xs.length from HT.sIx_nat xs.length 0 1, HT.sIx_none]
  cases xs with
  | nil => rfl
  | cons x r =>
    rw [show min 1 (x :: r).length = 1 by rw [List.length_cons]; omega]
    show (List.take ((x :: r).length - 1) r) = r
    rw [List.length_cons, Nat.add_sub_cancel]
    exact List.take_length
theorem cutN (n : Nat) (xs : List V) : cutV xs (some (n : Int)) none = xs.drop n := by
  unfold cutV
  rw [show HT.sIx xs.length 0 (some (n : Int)) = min n xs.length from HT.sIx_nat xs.length 0 n, HT.sIx_none]
  rcases Nat.le_total n xs.length with h | h
  · rw [Nat.min_eq_left h]
    exact List.take_of_length_le (by rw [List.length_drop]; exact Nat.le_refl _)
  · rw [Nat.min_eq_right h, List.drop_eq_nil_of_le (Nat.le_refl _), List.drop_eq_nil_of_le h]
    exact List.take_nil
theorem el_tail {σ : L2.St} {F : Hp} {ta : TE} {p : Addr} {xs : List V} {n : Nat} {ni : Int} (hn : ni = (n : Int)) (ha : Ev ta σ F (.ref p)) (h : SqL K F p xs) : EvL (tSl (rSlL K) ta (tPart (tC (.int ni))) tNoPart) σ F (xs.drop n) := fun H1 e Q q =>
  ha H1 e _ fun H2 e2 => ⟨ni, rfl, p, xs, rfl, ex_l (e.trans e2) h, fun l hl => by
    refine q l _ (fresh_back e2 hl) (e2.trans (Ex.new hl)) ?_
    rw [upd_same, hn, cutN]⟩
theorem goes_zm {σ : L2.St} {F : Hp} {ta tl : TE} {a : Addr} {us vs : List V} (ha : Ev ta σ F (.ref a)) (hu : SqT K F a us) (hl : EvL tl σ F vs) : GoesN (iZm K (tCons ta (tCons tl tNil))) σ F (min us.length vs.length) (YPair (fun i => us[i]?) (fun i => vs[i]?)) := fun H1 e R q =>
  ha H1 e _ fun H2 e2 => hl H2 (e.trans e2) _ fun b H3 hb e3 h3 => ⟨a, b, us, vs, rfl, ex_t ((e.trans e2).trans e3) hu, sq_of h3, q _ H3 (glue F H1 H3) (e2.trans e3) glue_F (glue_sub ((e.trans e2).trans e3)) (fun c hc hF => by
    cases hH : H1 c with
    | none => exact absurd hH hc
    | some o => exact glue_old hF hH) ((walk_zm rfl).mono (fun H g => ⟨ex_t (glue_F.trans g) hu, sq_of (g b _ (by rw [glue_new e (fresh_back e2 hb)]; exact h3))⟩) (fun _ _ _ _ _ _ y => y))⟩
/-- ROLES[words[0]] -/
theorem ev_roles {σ : L2.St} {F : Hp} {tk : TE} {k : List Nat} {t : Addr} (kd : KDct K w dR (S k) (.ref t)) (hk : Ev tk σ F (.str (S k))) : Ev (tOp (rIxD K w) (tC (.ref dR)) tk) σ F (.ref t) :=
  ev_op ev_c hk fun H1 _ _ z => ⟨dR, S k, .ref t, rfl, rfl, kd, z H1 (Ex.refl H1)⟩
/-- for role, word in zip(ROLES[words[0]], words[1:]): if bad: return True -/
theorem for_roles {σ : L2.St} {H : Hp} {ta tl : TE} {t : Addr} {rs ws : List (List Nat)} {i j : Nat} {tu tz : TS} {D : Ends} {bad : List Nat → List Nat → Bool} {E0 : L2.St → Prop} (ha : Ev ta σ H (.ref t)) (ht : SqT K H t (txts rs)) (hl : EvL tl σ H (txts ws))
    (h0 : E0 σ) (hE : ∀ σ a b, E0 σ → E0 ((σ.set i a).set j b))
    (hb : ∀ σ' H' r v, E0 σ' → r ∈ rs → v ∈ ws → Ex H H' → ∀ D' : Ends, (bad r v = true → ∀ H2, Ex H' H2 → D'.rt (.bl true) H2) → (bad r v = false → ∀ H2, Ex H' H2 → D'.nx ((σ'.set i (some (.str (S r)))).set j (some (.str (S v)))) H2) → tu D' ((σ'.set i (some (.str (S r)))).set j (some (.str (S v)))) H')
    (hy : (rs.zip ws).any (fun p => bad p.1 p.2) = true → ∀ H2, Ex H H2 → D.rt (.bl true) H2) (hd : (rs.zip ws).any (fun p => bad p.1 p.2) = false → ∀ σ' H2, E0 σ' → Ex H H2 → tz D σ' H2) :
    tSeq (tFor (iZm K (tCons ta (tCons tl tNil))) (gTup K 2 (gCons (gName i) (gCons (gName j) gNil))) tu) tz D σ H := by
  have hlen : (rs.zip ws).length = min (txts rs).length (txts ws).length := by
    rw [List.length_zip, List.length_map, List.length_map]
  refine q_forN (goes_zm ha ht hl) (Ex.refl H) (fun F2 k σ' H' => E0 σ' ∧ Ex F2 H' ∧ Ex H H' ∧ ((rs.zip ws).take k).any (fun p => bad p.1 p.2) = false) ?_ ?_ ?_ ?_
  · intro H1 F2 e1 _ e2 _
    exact ⟨h0, e2, e1, by simp⟩
  · rintro F2 k σ' H' _ ⟨_, h, _⟩
    exact h
  · rintro F2 k v σ' H1 H' hk ⟨g0, g1, g2, g3⟩ ⟨T, x, y, rfl, hT, rfl, hx, hy2⟩
    rw [← hlen] at hk
    have hz : (rs.zip ws)[k]? = some (rs.zip ws)[k] := List.getElem?_eq_getElem hk
    have hk1 : k < rs.length := by rw [List.length_zip] at hk; omega
    have hk2 : k < ws.length := by rw [List.length_zip] at hk; omega
    have ez : (rs.zip ws)[k] = (rs[k], ws[k]) := List.getElem_zip
    have hx : (txts rs)[k]? = some x := hx
    have hy2 : (txts ws)[k]? = some y := hy2
    rw [List.getElem?_map, List.getElem?_eq_getElem hk1] at hx
    rw [List.getElem?_map, List.getElem?_eq_getElem hk2] at hy2
    have ex : V.str (S rs[k]) = x := Option.some.inj hx
    have ey : V.str (S ws[k]) = y := Option.some.inj hy2
    subst ex ey
    have eT : Ex H1 (upd H1 T (.tup [V.str (S rs[k]), V.str (S ws[k])])) := Ex.new hT
    refine ⟨T, _, rfl, st_of upd_same, rfl, _, _, rfl, _, _, rfl, rfl, ?_⟩
    refine hb σ' _ rs[k] ws[k] g0 (List.getElem_mem hk1) (List.getElem_mem hk2) (g2.trans eT) _ (fun c H2 e2 => ?_) (fun c H2 e2 => ?_)
    · refine hy (List.any_eq_true.mpr ⟨(rs[k], ws[k]), ?_, c⟩) H2 ((g2.trans eT).trans e2)
      rw [← ez]
      exact List.getElem_mem hk
    · refine ⟨hE _ _ _ g0, (g1.trans eT).trans e2, (g2.trans eT).trans e2, ?_⟩
      rw [take_succ hz, List.any_append, g3, ez]
      simp [c]
  · rintro F2 σ' H' ⟨g0, g1, g2, g3⟩
    rw [← hlen, List.take_length] at g3
    exact hd g3 σ' H' g0 g2
/-! ### has_wrong_word -/
abbrev s_has_wrong_word : Stmt := top 50
theorem sc_has_wrong_word : FnScope ["words", "role", "word"] ["words"] (defScope s_has_wrong_word) := ⟨rfl, rfl, rfl, by decide +kernel, rfl, by decide +kernel, by decide +kernel⟩
def sp_has_wrong_word (K : PySem.W.Frag) : Sp := fun vs H Q _ => ∃ (p : Addr) (ws : List (List Nat)), vs = [.ref p] ∧ SqL K H p (txts ws) ∧ WordsOk ws ∧ (countsOf (ws.headD [])).isSome = true ∧ ∀ H2, Ex H H2 → Q (.bl (wrongWord ws)) H2
theorem has_has_wrong_word {f : Addr} {fd : FuncData} (F : Fun K "has_wrong_word" "has_wrong_word" s_has_wrong_word f fd) (O : Own mg) (B : Tabs K w mg dR dC dM tO) (g : mg "has_wrong_word" = some (.ref f)) (h_is_cost : Has P w K mg base 1 "is_cost" ["word"] sp_is_cost) (h_is_name : Has P w K mg base 1 "is_name" ["word"] sp_is_name) : Has P w K mg base 2 "has_wrong_word" ["words"] (sp_has_wrong_word K) := by
  refine ⟨f, fd, F.ok sc_has_wrong_word (fun vs H Q E h => ?_) (fun cdv A outer s H vs Q E hr h => ?_), g, F.kp, F.binds fun _ _ _ _ _ _ us hl => match us, hl with | [_], _ => rfl⟩
  · obtain ⟨_, _, rfl, _⟩ := h
    rfl
  · obtain ⟨p, ws, rfl, hp, W, hc, q⟩ := h
    refine ⟨_, (pss_cons (ps_for PassesOwn.never rfl (pi_zipTL (by rfl) O.zip (pa_cons (pe_ix ix_kdict (pe_gref B.gR rfl) (pe_ix ix_list (pv 0) pe_int (fun _ _ => rfl)) (fun _ _ => rfl)) (pa_cons (pe_slice sl_list (pv 0) (po_some pe_int) po_none) pa_nil))) (pg_tup rfl (pgs_cons (pg_name (i := 1) sc_has_wrong_word.nd rfl (Or.inl rfl)) (pgs_cons (pg_name (i := 2) sc_has_wrong_word.nd rfl (Or.inl rfl)) pgs_nil))) (pss_one (ps_if (pt_cmpR op_eq (pv 1) pe_str (nomark _)) (pss_one (ps_if (pt_not (pt_val (pe_own h_is_cost (hr.mono (by decide)) rfl (pa_cons (pv 2) pa_nil)))) (pss_one (ps_ret pe_bl)) pss_nil)) (pss_one (ps_if (pt_not (pt_val (pe_own h_is_name (hr.mono (by decide)) rfl (pa_cons (pv 2) pa_nil)))) (pss_one (ps_ret pe_bl)) pss_nil)))))
      (pss_one (ps_ret pe_bl))), ?_⟩
    obtain ⟨k, r, rfl⟩ := W.head
    obtain ⟨t, kd, st⟩ := B.roles k hc
    have hk : Ev (tOp (rIxL K) (tVar 0) (tC (.int 0))) (start ["words", "role", "word"] [.ref p]) H (.str (S k)) := ev_txt (K := K) (i := 0) (w := k) (ev_var rfl) ev_c hp rfl
    refine for_roles (bad := wrongWord1) (E0 := fun σ => ∃ a b, σ = [some (.ref p), a, b]) (ev_roles kd hk) (st H) (el_tail (K := K) (n := 1) rfl (ev_var rfl) hp) ⟨none, none, rfl⟩ ?_ ?_ ?_ ?_
    · rintro σ a b ⟨_, _, rfl⟩
      exact ⟨a, b, rfl⟩
    · rintro σ' H' ro v ⟨_, _, rfl⟩ _ hv e1 D' hy hn
      have hv' : v ≠ [] ∧ v.length ≤ 1500 := W.each v (List.mem_cons_of_mem _ hv)
      refine s_if (et_key key_cost (ev_var rfl)) (fun c H2 e2 => ?_) (fun c H2 e2 => ?_)
      · have hr1 : ro = rCost := of_decide_eq_true c
        refine s_when (et_not (et_B (ev_call (v := .bl (Pn16.cost? v).isSome) (ea_cons (ev_var rfl) ea_nil) fun H3 e3 Q3 q3 => ⟨v, rfl, hv'.1, hv'.2, q3⟩))) (fun c2 H3 e3 => s_ret ev_c fun H4 e4 => hy ?_ H4 ((e2.trans e3).trans e4)) (fun c2 H3 e3 => hn ?_ H3 (e2.trans e3))
        · unfold wrongWord1
          rw [if_pos hr1]
          exact c2
        · unfold wrongWord1
          rw [if_pos hr1]
          exact c2
      · have hr1 : ¬ ro = rCost := of_decide_eq_false c
        refine s_when (et_not (et_B (ev_call (v := .bl (Pn16.isName v)) (ea_cons (ev_var rfl) ea_nil) fun H3 e3 Q3 q3 => ⟨v, rfl, hv'.1, hv'.2, q3⟩))) (fun c2 H3 e3 => s_ret ev_c fun H4 e4 => hy ?_ H4 ((e2.trans e3).trans e4)) (fun c2 H3 e3 => hn ?_ H3 (e2.trans e3))
        · unfold wrongWord1
          rw [if_neg hr1]
          exact c2
        · unfold wrongWord1
          rw [if_neg hr1]
          exact c2
    · intro c H2 e2
      have z := q H2 e2
      have e : wrongWord (k :: r) = true := c
      rw [e] at z
      exact z
    · intro c σ' H2 _ e2
      refine s_ret ev_c fun H3 e3 => ?_
      have z := q H3 (e2.trans e3)
      have e : wrongWord (k :: r) = false := c
      rw [e] at z
      exact z
/-! ### names_what_is_not_there -/
abbrev s_names_what_is_not_there : Stmt := top 54
theorem sc_names_what_is_not_there : FnScope ["text", "words", "role", "word"] ["text", "words"] (defScope s_names_what_is_not_there) := ⟨rfl, rfl, rfl, by decide +kernel, rfl, by decide +kernel, by decide +kernel⟩
def sp_not_there (K : PySem.W.Frag) (CT CA : Addr) : Sp := fun vs H Q _ => ∃ (A : TextA) (x : Pn16.Text) (p : Addr) (ws : List (List Nat)), vs = [.ref A.a, .ref p] ∧ TextAt CT CA H A x ∧ SqL K H p (txts ws) ∧ WordsOk ws ∧ (countsOf (ws.headD [])).isSome = true ∧ ∀ H2, Ex H H2 → Q (.bl (notThere x ws)) H2
theorem has_not_there {f : Addr} {fd : FuncData} (F : Fun K "names_what_is_not_there" "names_what_is_not_there" s_names_what_is_not_there f fd) (O : Own mg) (B : Tabs K w mg dR dC dM tO) (g : mg "names_what_is_not_there" = some (.ref f)) (h_is_there : Has P w K mg base 2 "is_there" ["text", "role", "word"] (sp_is_there CT CA)) : Has P w K mg base 3 "names_what_is_not_there" ["text", "words"] (sp_not_there K CT CA) := by
  refine ⟨f, fd, F.ok sc_names_what_is_not_there (fun vs H Q E h => ?_) (fun cdv A outer s H vs Q E hr h => ?_), g, F.kp, F.binds fun _ _ _ _ _ _ us hl => match us, hl with | [_, _], _ => rfl⟩
  · obtain ⟨_, _, _, _, rfl, _⟩ := h
    rfl
  · obtain ⟨A, x, p, ws, rfl, T, hp, W, hc, q⟩ := h
    refine ⟨_, (pss_cons (ps_for PassesOwn.never rfl (pi_zipTL (by rfl) O.zip (pa_cons (pe_ix ix_kdict (pe_gref B.gR rfl) (pe_ix ix_list (pv 1) pe_int (fun _ _ => rfl)) (fun _ _ => rfl)) (pa_cons (pe_slice sl_list (pv 1) (po_some pe_int) po_none) pa_nil))) (pg_tup rfl (pgs_cons (pg_name (i := 2) sc_names_what_is_not_there.nd rfl (Or.inl rfl)) (pgs_cons (pg_name (i := 3) sc_names_what_is_not_there.nd rfl (Or.inl rfl)) pgs_nil))) (pss_one (ps_if (pt_not (pt_val (pe_own h_is_there (hr.mono (by decide)) rfl (pa_cons (pv 0) (pa_cons (pv 2) (pa_cons (pv 3) pa_nil)))))) (pss_one (ps_ret pe_bl)) pss_nil)))
      (pss_one (ps_ret pe_bl))), ?_⟩
    obtain ⟨k, r, rfl⟩ := W.head
    obtain ⟨t, kd, st⟩ := B.roles k hc
    have hk : Ev (tOp (rIxL K) (tVar 1) (tC (.int 0))) (start ["text", "words", "role", "word"] [.ref A.a, .ref p]) H (.str (S k)) := ev_txt (K := K) (i := 0) (w := k) (ev_var rfl) ev_c hp rfl
    refine for_roles (bad := fun ro v => !isThere x ro v) (E0 := fun σ => ∃ a b, σ = [some (.ref A.a), some (.ref p), a, b]) (ev_roles kd hk) (st H) (el_tail (K := K) (n := 1) rfl (ev_var rfl) hp) ⟨none, none, rfl⟩ ?_ ?_ ?_ ?_
    · rintro σ a b ⟨_, _, rfl⟩
      exact ⟨a, b, rfl⟩
    · rintro σ' H' ro v ⟨_, _, rfl⟩ _ hv e1 D' hy hn
      exact s_when (et_not (et_B (ev_call (v := .bl (isThere x ro v)) (ea_cons (ev_var rfl) (ea_cons (ev_var rfl) (ea_cons (ev_var rfl) ea_nil))) fun H3 e3 Q3 q3 => ⟨A, x, ro, v, rfl, T.mono (e1.trans e3), q3⟩))) (fun c2 H3 e3 => s_ret ev_c fun H4 e4 => hy c2 H4 (e3.trans e4)) (fun c2 H3 e3 => hn c2 H3 e3)
    · intro c H2 e2
      have z := q H2 e2
      have e : notThere x (k :: r) = true := c
      rw [e] at z
      exact z
    · intro c σ' H2 _ e2
      refine s_ret ev_c fun H3 e3 => ?_
      have z := q H3 (e2.trans e3)
      have e : notThere x (k :: r) = false := c
      rw [e] at z
      exact z
end
end KP
set_option Elab.async false
set_option linter.all false
set_option maxRecDepth 100000
set_option maxHeartbeats 400000
namespace KP
open PySem PySem.Spec PyProof.Rows L2 Evl
/-! ### lists of texts as data -/
theorem lay_strs : ∀ zs : List Str, (∀ z ∈ zs, PyData.strOk z = true) → PyData.canLayAll0 (zs.map PyData.str) = true
  | [], _ => by simp [PyData.canLayAll0]
  | z :: zs, h => by simp [PyData.canLayAll0, PyData.canLay0, lay_strs zs (fun y hy => h y (List.mem_cons_of_mem _ hy)), h z (List.mem_cons_self ..)]
theorem strOk_low {l : List Nat} (h : ∀ b ∈ l, b < 256) : PyData.strOk (S l) = true := by
  unfold PyData.strOk
  rw [← Array.all_toList]
  exact List.all_eq_true.mpr fun b hb => decide_eq_true (Nat.lt_trans (h b hb) (by decide))
theorem name_low {l : List Nat} (h : Pn16.isName l = true) : ∀ b ∈ l, b < 256 := by
  have key : ∀ b, (Pn16.isLetter b || Pn16.isDigit b) = true → b < 256 := fun b hb => by
    unfold Pn16.isLetter Pn16.isDigit at hb
    rw [Bool.or_eq_true, Bool.and_eq_true, Bool.and_eq_true, decide_eq_true_iff, decide_eq_true_iff, decide_eq_true_iff, decide_eq_true_iff] at hb
    omega
  cases l with
  | nil => intro b hb; exact nomatch hb
  | cons c r =>
    have h' : (Pn16.isLetter c && (decide (r.length ≤ 7) && r.all fun c => Pn16.isLetter c || Pn16.isDigit c)) = true := h
    rw [Bool.and_eq_true, Bool.and_eq_true] at h'
    intro b hb
    rcases List.mem_cons.mp hb with e | hb
    · rw [e]
      exact key c (by rw [h'.1]; rfl)
    · exact key b (List.all_eq_true.mp h'.2.2 b hb)
theorem kindName_low {x : Pn16.Text} (hx : TextOk x) (k : Nat) : ∀ b ∈ kindName x k, b < 256 := by
  unfold kindName
  rw [List.getD_eq_getElem?_getD]
  cases e : x.kinds[k]? with
  | none => intro b hb; exact nomatch hb
  | some n => exact name_low (hx.kinds.2.2 n (List.mem_of_getElem? e))
theorem argKind_low {x : Pn16.Text} (hx : TextOk x) (v : List Nat) : ∀ b ∈ argKind x v, b < 256 := by
  unfold argKind
  split <;> exact kindName_low hx _
theorem depth_strs : ∀ zs : List Str, PyData.depthAll (zs.map PyData.str) = 0
  | [] => by simp [PyData.depthAll]
  | z :: zs => by simp [PyData.depthAll, PyData.depth, depth_strs zs]
theorem shaped_strs (zs : List Str) (hz : ∀ z ∈ zs, PyData.strOk z = true) : SeqAt.shaped (.list (zs.map PyData.str)) = true := by
  show (PyData.canLay0 (.list (zs.map PyData.str)) && decide (PyData.depth (.list (zs.map PyData.str)) ≤ 64)) = true
  have h : PyData.depth (.list (zs.map PyData.str)) ≤ 64 := by
    simp only [PyData.depth, depth_strs]
    omega
  rw [Bool.and_eq_true]
  exact ⟨by simp only [PyData.canLay0]; exact lay_strs zs hz, decide_eq_true h⟩
theorem eqv_strs : ∀ a b : List (List Nat), PyData.eqvAll ((a.map S).map PyData.str) ((b.map S).map PyData.str) = decide (a = b)
  | [], [] => by simp [PyData.eqvAll]
  | [], _ :: _ => by simp [PyData.eqvAll]
  | _ :: _, [] => by simp [PyData.eqvAll]
  | x :: a, y :: b => by
    have ih := eqv_strs a b
    simp only [List.map_cons, PyData.eqvAll, PyData.eqv]
    rw [ih]
    by_cases h1 : x = y
    · subst h1
      by_cases h2 : a = b
      · subst h2
        simp
      · rw [decide_eq_false h2, decide_eq_false fun e => h2 (List.cons.inj e).2, Bool.and_false]
    · have e1 : (S x == S y) = false := by
        cases h : (S x == S y) with
        | false => rfl
        | true => exact absurd (S_inj (eq_of_beq h)) h1
      rw [e1, decide_eq_false fun e => h1 (List.cons.inj e).1, Bool.false_and]
section
variable {K : PySem.W.Frag} {mg : Str → Option Value} {P : Program} {w : World} {base : Heap} {CT CA dR dC dM tO : Addr}
theorem dp_txts {H : Hp} {p : Addr} {ws : List (List Nat)} (h : SqL K H p (txts ws)) : Dp K H (.ref p) (.list ((ws.map S).map PyData.str)) := by
  refine .lst (xs := (ws.map S).map V.str) ?_ (strs_dpAll _)
  rw [List.map_map]
  exact h
/-- what notThere asks of the words, where it is false -/
theorem there_args {x : Pn16.Text} {k n : List Nat} {a : List (List Nat)} (hro : (rolesOf k).headD [] = kFact) (hl : a.length ≤ 2) (h : notThere x (k :: n :: a) = false) : (Pn16.names x.facts).contains n = true ∧ ∀ v ∈ a, ((Pn16.names x.things).contains v || (lastPlaces x).contains v) = true := by
  have hr : rolesOf k = [kFact, rArg, rArg] ∨ rolesOf k = [kFact, kThing, kThing] := by
    unfold rolesOf at hro ⊢
    split at hro
    · cases hro
    · split at hro
      · cases hro
      · split at hro
        · cases hro
        · split at hro
          · cases hro
          · split at hro
            · rename_i h1 h2 h3 h4 h5
              rw [if_neg h1, if_neg h2, if_neg h3, if_neg h4, if_pos h5]
              exact .inl rfl
            · split at hro
              · rename_i h1 h2 h3 h4 h5 h6
                rw [if_neg h1, if_neg h2, if_neg h3, if_neg h4, if_neg h5, if_pos h6]
                exact .inr rfl
              · cases hro
  have h' : ((rolesOf k).zip (n :: a)).any (fun p => !isThere x p.1 p.2) = false := h
  rcases hr with hr | hr
  · rw [hr, List.zip_cons_cons, List.any_cons, zip2 hl, Bool.or_eq_false_iff] at h'
    refine ⟨by simpa [isThere, kFact, kKind] using h'.1, fun v hv => ?_⟩
    have := List.any_eq_false.mp h'.2 v hv
    have e : isThere x rArg v = ((Pn16.names x.things).contains v || (lastPlaces x).contains v) := rfl
    rw [← e]
    simpa using this
  · rw [hr, List.zip_cons_cons, List.any_cons, zip2 hl, Bool.or_eq_false_iff] at h'
    refine ⟨by simpa [isThere, kFact, kKind] using h'.1, fun v hv => ?_⟩
    have := List.any_eq_false.mp h'.2 v hv
    have h2 : (Pn16.names x.things).contains v = true := by simpa [isThere, kFact, kKind, kThing, rArg] using this
    rw [h2] <;> rfl
/-! ### has_other_kinds -/
abbrev s_has_other_kinds : Stmt := top 56
theorem sc_has_other_kinds : FnScope ["text", "words", "kinds", "word"] ["text", "words"] (defScope s_has_other_kinds) := ⟨rfl, rfl, rfl, by decide +kernel, rfl, by decide +kernel, by decide +kernel⟩
def sp_other_kinds (K : PySem.W.Frag) (CT CA : Addr) : Sp := fun vs H Q _ => ∃ (A : TextA) (x : Pn16.Text) (p : Addr) (ws : List (List Nat)), vs = [.ref A.a, .ref p] ∧ TextAt CT CA H A x ∧ TextOk x ∧ SqL K H p (txts ws) ∧ WordsOk ws ∧ noLine ws = false ∧ notThere x ws = false ∧ ∀ H2, Ex H H2 → Q (.bl (otherKinds x ws)) H2
theorem noLine_some {ws : List (List Nat)} (h : noLine ws = false) : (countsOf (ws.headD [])).isSome = true := by
  unfold noLine at h
  cases e : countsOf (ws.headD []) with
  | none =>
    rw [e] at h
    cases h
  | some c => rfl
/-- with that many words there is a second one; of a fact's there are two more at most -/
theorem noLine_two {k : List Nat} {r : List (List Nat)} (h : noLine (k :: r) = false) : ∃ n a, r = n :: a ∧ ((rolesOf k).headD [] = kFact → a.length ≤ 2) := by
  have h' : (match countsOf k with | none => true | some c => !c.contains (r.length + 1)) = false := h
  cases e : countsOf k with
  | none =>
    rw [e] at h'
    cases h'
  | some c =>
    rw [e] at h'
    have hm : r.length + 1 ∈ c := by
      have h2 : c.contains (r.length + 1) = true := by simpa using h'
      exact List.contains_iff_mem.mp h2
    obtain ⟨g1, _⟩ := counts_roles e (n := r.length) (List.contains_iff_mem.mpr hm)
    have key : ∀ l : List Nat, c = l → (∀ m ∈ l, 2 ≤ m) → 2 ≤ r.length + 1 := fun l el hl => hl _ (by rw [← el]; exact hm)
    have h2 : 2 ≤ r.length + 1 := by
      unfold countsOf at e
      split at e
      · exact key [2] (Option.some.inj e).symm (by decide)
      · split at e
        · exact key [3] (Option.some.inj e).symm (by decide)
        · split at e
          · exact key [2, 3, 4] (Option.some.inj e).symm (by decide)
          · split at e
            · exact key [3, 5, 7] (Option.some.inj e).symm (by decide)
            · split at e
              · exact key [2, 3, 4] (Option.some.inj e).symm (by decide)
              · cases e
    cases r with
    | nil => simp at h2
    | cons n a =>
      refine ⟨n, a, rfl, fun hro => ?_⟩
      have : (rolesOf k).length ≤ 3 := by
        unfold rolesOf at hro ⊢
        split at hro
        · cases hro
        · split at hro
          · cases hro
          · split at hro
            · cases hro
            · split at hro
              · cases hro
              · rename_i h1 h2 h3 h4
                rw [if_neg h1, if_neg h2, if_neg h3, if_neg h4]
                split
                · decide
                · split <;> decide
      simp only [List.length_cons] at g1
      omega
theorem has_other_kinds {f : Addr} {fd : FuncData} (F : Fun K "has_other_kinds" "has_other_kinds" s_has_other_kinds f fd) (O : Own mg) (C : Clss K CT CA) (B : Tabs K w mg dR dC dM tO) (g : mg "has_other_kinds" = some (.ref f)) (h_kind_of : Has P w K mg base 1 "kind_of" ["text", "argument"] (sp_kind_of CT CA)) : Has P w K mg base 2 "has_other_kinds" ["text", "words"] (sp_other_kinds K CT CA) := by
  refine ⟨f, fd, F.ok sc_has_other_kinds (fun vs H Q E h => ?_) (fun cdv A outer s H vs Q E hr h => ?_), g, F.kp, F.binds fun _ _ _ _ _ _ us hl => match us, hl with | [_, _], _ => rfl⟩
  · obtain ⟨_, _, _, _, rfl, _⟩ := h
    rfl
  · obtain ⟨A, x, p, ws, rfl, T, hx, hp, W, hnl, hnt, q⟩ := h
    have hu64 := hr.units
    refine ⟨_, (pss_cons (ps_if (pt_cmpR op_ne (pe_ix ix_tup (pe_ix ix_kdict (pe_gref B.gR rfl) (pe_ix ix_list (pv 1) pe_int (fun _ _ => rfl)) (fun _ _ => rfl)) pe_int (fun _ _ => rfl)) pe_str (nomark _)) (pss_one (ps_ret pe_bl)) pss_nil)
      (pss_cons (ps_setLc (i := 2) (own := [("word", 3)]) (g := gName 3) (tt := tYes) (te := tCall (sp_kind_of CT CA) [] E0 (tCons (tVar 0) (tCons (tVar 3) tNil))) rfl sc_has_other_kinds.nd rfl rfl (sw_true rfl rfl rfl (by decide +kernel)) (pi_list (pe_slice sl_list (pv 1) (po_some pe_int) po_none)) (blkOk_by (N := ["text", "words", "kinds", "word"]) (sc := defScope s_has_other_kinds) (by decide +kernel)) (fun _ _ _ _ _ => (pg_name (i := 3) sc_has_other_kinds.nd rfl (Or.inl rfl))) (fun _ _ _ _ _ => pts_nil) (fun _ _ _ _ _ => (pe_own h_kind_of (hr.mono (by decide)) rfl (pa_cons (pv 0) (pa_cons (pv 3) pa_nil)))))
      (pss_one (ps_ret (pe_cmpR (op_neD hu64) (pv 2) (pe_ix ix_list (pe_fld (pv 0) rfl) (pe_bm PySem.F.plainAttrs_list PySem.F.slot_list_index PySem.F.type_list_index mt_index (pe_fld (pv 0) rfl) (pa_cons (pe_ix ix_list (pv 1) pe_int (fun _ _ => rfl)) pa_nil)) (fun _ _ => rfl)) (nomark _)))))), ?_⟩
    obtain ⟨k, r, rfl⟩ := W.head
    obtain ⟨n, a, rfl, ha2⟩ := noLine_two hnl
    obtain ⟨t, kd, st⟩ := B.roles k (noLine_some hnl)
    have hk : Ev (tOp (rIxL K) (tVar 1) (tC (.int 0))) (start ["text", "words", "kinds", "word"] [.ref A.a, .ref p]) H (.str (S k)) := ev_txt (K := K) (i := 0) (w := k) (ev_var rfl) ev_c hp rfl
    -- the first role
    obtain ⟨r0, hr0⟩ : ∃ r0, (rolesOf k)[0]? = some r0 := by
      have hc := noLine_some hnl
      rcases counts_sort hc with h | h | h | h | h | h | h
      · have h : k = kKind := h
        rw [h]
        exact ⟨_, rfl⟩
      · have h : k = kThing := h
        rw [h]
        exact ⟨_, rfl⟩
      · have h : k = kFact := h
        rw [h]
        exact ⟨_, rfl⟩
      · have h : k = kAct := h
        rw [h]
        exact ⟨_, rfl⟩
      · have h : k = kNow := h
        rw [h]
        exact ⟨_, rfl⟩
      · have h : k = kWant := h
        rw [h]
        exact ⟨_, rfl⟩
      · have h : ofAct k = true := h
        rw [(lits_which (x := x) h).2.2.1]
        exact ⟨_, rfl⟩
    have hhead : (rolesOf k).headD [] = r0 := by
      cases e : rolesOf k with
      | nil =>
        rw [e] at hr0
        cases hr0
      | cons u l =>
        rw [e] at hr0
        exact Option.some.inj hr0
    have hrole : Ev (tOp (rIxT K) (tOp (rIxD K w) (tC (.ref dR)) (tOp (rIxL K) (tVar 1) (tC (.int 0)))) (tC (.int 0))) (start ["text", "words", "kinds", "word"] [.ref A.a, .ref p]) H (.str (S r0)) :=
      ev_op (ev_roles kd hk) ev_c (rv_ixT (st H) (atI_nat (j := 0) (by rw [List.getElem?_map, hr0]; rfl)))
    refine q_when (et_is (et_neS hrole ev_c) (b := !decide (r0 = kFact)) (by rw [key_fact, S_eq])) (fun c H1 e1 => s_ret ev_c fun H2 e2 => ?_) (fun c H1 e1 => ?_)
    · have hne : ¬ r0 = kFact := by simpa using c
      have z := q H2 (e1.trans e2)
      unfold otherKinds at z
      rw [if_neg (by show ¬ (rolesOf k).headD [] = kFact; rw [hhead]; exact hne)] at z
      exact z
    · have heq : r0 = kFact := by simpa using c
      have hro : (rolesOf k).headD [] = kFact := hhead.trans heq
      obtain ⟨hf, hargs⟩ := there_args hro (ha2 hro) hnt
      have hfm := contains_iff.mp hf
      have T1 := T.mono e1
      have hp1 := ex_l e1 hp
      have hsrc : EvL (tSl (rSlL K) (tVar 1) (tPart (tC (.int 2))) tNoPart) (start ["text", "words", "kinds", "word"] [.ref A.a, .ref p]) H1 (txts a) := by
        have := el_tail (K := K) (σ := start ["text", "words", "kinds", "word"] [.ref A.a, .ref p]) (n := 2) (ni := 2) (ta := tVar 1) rfl (ev_var rfl) hp1
        exact this
      have hgo := goes_new (K := K) hsrc
      rw [List.length_map] at hgo
      have ha1 := ha2 hro
      refine q_asgL (xs := txts (a.map (argKind x))) ?_ fun l H2 hl e2 h2 => ?_
      · rw [show txts (a.map (argKind x)) = a.map (fun v => V.str (S (argKind x v))) from List.map_map]
        exact el_map [] (c := fun v => V.str (S v)) hgo (by omega) (fun _ => rfl) fun v hv => ev_call (ea_cons (ev_var rfl) (ea_cons (ev_var rfl) ea_nil)) fun H3 e3 Q3 q3 => ⟨A, x, v, rfl, T1.mono e3, hargs v hv, q3⟩
      · have T2 := T1.mono e2
        have hp2 := ex_l e2 hp1
        have hlt : (Pn16.names x.facts).idxOf n < x.facts.length := by
          rw [← names_len]
          exact List.idxOf_lt_length_of_mem hfm
        obtain ⟨b, hb1, hb2⟩ := T2.fks.get (List.getElem?_eq_getElem hlt)
        have hfk : factKinds x ((Pn16.names x.facts).idxOf n) = (x.facts[(Pn16.names x.facts).idxOf n]).2.map (kindName x) := by
          unfold factKinds Pn16.kindsOf
          rw [List.getElem?_eq_getElem hlt] <;> rfl
        have hov : otherKinds x (k :: n :: a) = !decide (a.map (argKind x) = (x.facts[(Pn16.names x.facts).idxOf n]).2.map (kindName x)) := by
          unfold otherKinds
          rw [if_pos (show (rolesOf ((k :: n :: a).headD [])).headD [] = kFact from hro)]
          show decide (a.map (argKind x) ≠ factKinds x ((Pn16.names x.facts).idxOf n)) = _
          rw [hfk, decide_not]
        refine s_ret (v := .bl (otherKinds x (k :: n :: a))) (ev_op (x := .ref l) (y := .ref b) (ev_var rfl) (ev_op (ev_factKinds T2 C (ev_var rfl)) (ev_index (K := K) (w := n) (ev_facts T2 C (ev_var rfl)) (ev_txt (K := K) (i := 1) (w := n) (ev_var rfl) ev_c hp2 rfl) (sq_of T2.facts) hfm) (rv_ixL (K := K) (sq_of T2.factKinds) (atI_nat (by rw [List.getElem?_map, hb1]; rfl)))) fun H3 e3 Q3 z => ?_) fun H3 e3 => q H3 ((e1.trans e2).trans e3)
        refine ⟨_, _, dp_txts (sq_of (e3 _ _ h2)), dp_txts (sq_of (e3 _ _ hb2)), shaped_strs _ ?_, shaped_strs _ ?_, ?_⟩
        · intro z hz
          obtain ⟨v, hv, rfl⟩ := List.mem_map.mp hz
          obtain ⟨u, _, rfl⟩ := List.mem_map.mp hv
          exact strOk_low (argKind_low hx u)
        · intro z hz
          obtain ⟨v, hv, rfl⟩ := List.mem_map.mp hz
          obtain ⟨u, _, rfl⟩ := List.mem_map.mp hv
          exact strOk_low (kindName_low hx u)
        rw [show PyData.eqv (.list (((a.map (argKind x)).map S).map PyData.str)) (.list ((((x.facts[(Pn16.names x.facts).idxOf n]).2.map (kindName x)).map S).map PyData.str)) = decide (a.map (argKind x) = (x.facts[(Pn16.names x.facts).idxOf n]).2.map (kindName x)) by
          rw [← eqv_strs]
          simp only [PyData.eqv], ← hov]
        exact z H3 (Ex.refl H3)
/-! ### takes_a_name_again -/
theorem pick_seconds : ∀ ws : List (List Nat), (ws.length = 3 ∨ ws.length = 5 ∨ ws.length = 7) → pickV (txts ws) (some 3) none (some 2) = txts (seconds (ws.drop 3))
  | [a, b, c], _ => by with_unfolding_all rfl
  | [a, b, c, d, e], _ => by with_unfolding_all rfl
  | [a, b, c, d, e, f, g], _ => by with_unfolding_all rfl
  | [], h => by simp at h
  | [_], h => by simp at h
  | [_, _], h => by simp at h
  | [_, _, _, _], h => by simp at h
  | [_, _, _, _, _, _], h => by simp at h
  | _ :: _ :: _ :: _ :: _ :: _ :: _ :: _ :: _, h => by simp at h
abbrev s_takes_a_name_again : Stmt := top 51
theorem sc_takes_a_name_again : FnScope ["text", "words", "name", "act"] ["text", "words"] (defScope s_takes_a_name_again) := ⟨rfl, rfl, rfl, by decide +kernel, rfl, by decide +kernel, by decide +kernel⟩
def sp_name_again (K : PySem.W.Frag) (CT CA : Addr) : Sp := fun vs H Q _ => ∃ (A : TextA) (x : Pn16.Text) (p : Addr) (ws : List (List Nat)), vs = [.ref A.a, .ref p] ∧ TextAt CT CA H A x ∧ TextOk x ∧ SqL K H p (txts ws) ∧ WordsOk ws ∧ noLine ws = false ∧ ∀ H2, Ex H H2 → Q (.bl (nameAgain x ws)) H2
theorem has_name_again {f : Addr} {fd : FuncData} (F : Fun K "takes_a_name_again" "takes_a_name_again" s_takes_a_name_again f fd) (O : Own mg) (C : Clss K CT CA) (g : mg "takes_a_name_again" = some (.ref f)) (h_is_place_of_an_act : Has P w K mg base 1 "is_place_of_an_act" ["text", "name"] (sp_is_place CT CA)) (h_has_wrong_places : Has P w K mg base 1 "has_wrong_places" ["text", "places"] (sp_has_wrong_places K CT CA)) : Has P w K mg base 2 "takes_a_name_again" ["text", "words"] (sp_name_again K CT CA) := by
  refine ⟨f, fd, F.ok sc_takes_a_name_again (fun vs H Q E h => ?_) (fun cdv A outer s H vs Q E hr h => ?_), g, F.kp, F.binds fun _ _ _ _ _ _ us hl => match us, hl with | [_, _], _ => rfl⟩
  · obtain ⟨_, _, _, _, rfl, _⟩ := h
    rfl
  · obtain ⟨A, x, p, ws, rfl, T, hx, hp, W, hnl, q⟩ := h
    refine ⟨_, (pss_cons (ps_set (i := 2) sc_takes_a_name_again.nd rfl (Or.inl rfl) (pe_ix ix_list (pv 1) pe_int (fun _ _ => rfl)))
      (pss_cons (ps_if (pt_cmpR op_eq (pe_ix ix_list (pv 1) pe_int (fun _ _ => rfl)) pe_str (nomark _)) (pss_one (ps_ret (pe_cmpR op_in_seq (pv 2) (pe_fld (pv 0) rfl) (by rfl)))) pss_nil)
      (pss_cons (ps_if (pt_cmpR op_eq (pe_ix ix_list (pv 1) pe_int (fun _ _ => rfl)) pe_str (nomark _)) (pss_one (ps_ret (pe_or (pe_cmpR op_in_seq (pv 2) (pe_fld (pv 0) rfl) (by rfl)) (pe_one (pe_own h_is_place_of_an_act (hr.mono (by decide)) rfl (pa_cons (pv 0) (pa_cons (pv 2) pa_nil))))))) pss_nil)
      (pss_cons (ps_if (pt_cmpR op_eq (pe_ix ix_list (pv 1) pe_int (fun _ _ => rfl)) pe_str (nomark _)) (pss_one (ps_ret (pe_cmpR op_in_seq (pv 2) (pe_fld (pv 0) rfl) (by rfl)))) pss_nil)
      (pss_cons (ps_if (pt_cmpR op_eq (pe_ix ix_list (pv 1) pe_int (fun _ _ => rfl)) pe_str (nomark _)) (pss_one (ps_ret (pe_or (pe_cmpR op_in_seq (pv 2) (pe_lc (own := [("act", 3)]) (g := gName 3) (tt := tYes) (te := tFld K (tVar 3) "name") rfl sc_takes_a_name_again.nd (pi_list (pe_fld (pv 0) rfl)) (blkOk_by (N := ["text", "words", "name", "act"]) (sc := defScope s_takes_a_name_again) (by decide +kernel)) (fun _ _ _ _ _ => (pg_name (i := 3) sc_takes_a_name_again.nd rfl (Or.inl rfl))) (fun _ _ _ _ _ => pts_nil) (fun _ _ _ _ _ => (pe_fld (pv 3) (by rfl)))) (by rfl)) (pe_one (pe_own h_has_wrong_places (hr.mono (by decide)) rfl (pa_cons (pv 0) (pa_cons (pe_slice3 (pv 1) (po_some pe_int) po_none (po_some pe_int)) pa_nil))))))) pss_nil)
      (pss_one (ps_ret pe_bl))))))), ?_⟩
    obtain ⟨k, r, rfl⟩ := W.head
    obtain ⟨n, a, rfl, _⟩ := noLine_two hnl
    refine q_asg (ev_txt (K := K) (i := 1) (w := n) (ev_var rfl) ev_c hp rfl) fun H0 e0 => ?_
    have hk : ∀ F, Ex H0 F → Ev (tOp (rIxL K) (tVar 1) (tC (.int 0))) [some (.ref A.a), some (.ref p), some (.str (S n)), none] F (.str (S k)) := fun F e => ev_txt (K := K) (i := 0) (w := k) (ev_var rfl) ev_c (ex_l (e0.trans e) hp) rfl
    have fin : ∀ {H2 : Hp} (b : Bool), Ex H H2 → nameAgain x (k :: n :: a) = b → Q (.bl b) H2 := fun b e2 en => by
      have z := q _ e2
      rw [en] at z
      exact z
    have T0 := T.mono e0
    refine q_when (et_key key_kind (hk H0 (Ex.refl _))) (fun c H1 e1 => ?_) (fun c1 H1 e1 => ?_)
    · have T1 := T0.mono e1
      refine s_ret (ev_inL (K := K) (w := n) (ev_var rfl) (ev_kinds T1 C (ev_var rfl)) (sq_of T1.kinds)) fun H2 e2 => fin _ ((e0.trans e1).trans e2) ?_
      rw [of_decide_eq_true c] <;> rfl
    have n1 : ¬ k = kKind := of_decide_eq_false c1
    refine q_when (et_key key_thing (hk H1 e1)) (fun c H2 e2 => ?_) (fun c2 H2 e2 => ?_)
    · have T1 := T0.mono (e1.trans e2)
      refine s_ret (ev_orV (ev_inL (K := K) (w := n) (ev_var rfl) (ev_things T1 C (ev_var rfl)) (sq_of T1.things)) fun _ => ev_call (v := .bl (isPlace x n)) (ea_cons (ev_var rfl) (ea_cons (ev_var rfl) ea_nil)) fun H3 e3 Q3 q3 => ⟨A, x, n, rfl, T1.mono e3, hx.acts.1, q3⟩) fun H3 e3 => fin _ ((e0.trans (e1.trans e2)).trans e3) ?_
      rw [of_decide_eq_true c] <;> rfl
    have n2 : ¬ k = kThing := of_decide_eq_false c2
    refine q_when (et_key key_fact (hk H2 (e1.trans e2))) (fun c H3 e3 => ?_) (fun c3 H3 e3 => ?_)
    · have T1 := T0.mono ((e1.trans e2).trans e3)
      refine s_ret (ev_inL (K := K) (w := n) (ev_var rfl) (ev_facts T1 C (ev_var rfl)) (sq_of T1.facts)) fun H4 e4 => fin _ ((e0.trans ((e1.trans e2).trans e3)).trans e4) ?_
      rw [of_decide_eq_true c] <;> rfl
    have n3 : ¬ k = kFact := of_decide_eq_false c3
    refine q_when (et_key key_act (hk H3 ((e1.trans e2).trans e3))) (fun c H4 e4 => ?_) (fun c4 H4 e4 => ?_)
    · have hka : k = kAct := of_decide_eq_true c
      have e04 : Ex H H4 := e0.trans (((e1.trans e2).trans e3).trans e4)
      have T1 := T.mono e04
      have hlen : (k :: n :: a).length = 3 ∨ (k :: n :: a).length = 5 ∨ (k :: n :: a).length = 7 := by
        have h' : (match countsOf k with | none => true | some c => !c.contains (k :: n :: a).length) = false := hnl
        rw [hka, show countsOf kAct = some [3, 5, 7] by decide] at h'
        have h2 : ([3, 5, 7] : List Nat).contains (k :: n :: a).length = true := by
          rw [hka]
          cases hb : ([3, 5, 7] : List Nat).contains (kAct :: n :: a).length with
          | true => rfl
          | false =>
            have h3 : (!([3, 5, 7] : List Nat).contains (kAct :: n :: a).length) = false := h'
            rw [hb] at h3
            cases h3
        rw [c357] at h2
        exact of_decide_eq_true h2
      have hgo := goes_acts (K := K) T1 C (σ := [some (.ref A.a), some (.ref p), some (.str (S n)), none]) (ta := tVar 0) (ev_var rfl)
      have hl := T.as.length
      have ha4 := hx.acts.1
      refine s_ret (v := .bl ((x.acts.map fun a => a.name).contains n || wrongPlaces x (seconds a.tail))) (ev_orV (ev_opL (xs := txts (x.acts.map fun a => a.name)) (ev_var rfl) ?_ fun l H5 h5 e5 => ?_) fun _ => ?_) fun H5 e5 => fin _ (e04.trans e5) ?_
      · rw [show txts (x.acts.map fun a => a.name) = x.acts.map (fun a => V.str (S a.name)) from List.map_map]
        exact el_p2 Pn16.none_ (c := fun q : ActA => V.ref q.b) T1.as hgo.new (by omega) (fun _ => rfl) fun B _ s _ TB => ev_aname TB C (ev_var rfl)
      · intro H6 e6 Q6 q6
        refine ⟨l, _, rfl, .inl (sq_of (e6 _ _ h5)), rfl, flat_txts _, ?_⟩
        show Q6 (.bl (inV _ _)) H6
        rw [inV_txts]
        exact q6 H6 (Ex.refl H6)
      · intro H5 e5 Q5 q5
        refine ⟨_, rfl, _, rfl, 3, rfl, 2, rfl, p, txts (k :: n :: a), rfl, ex_l (e04.trans e5) hp, by decide, ?_, fun l hl => ?_⟩
        · rw [pick_seconds _ hlen, List.length_map]
          have : (seconds ((k :: n :: a).drop 3)).length ≤ 1500 := by
            match a, hlen with
            | [_], _ => simp [seconds]
            | [_, _, _], _ => simp [seconds]
            | [_, _, _, _, _], _ => simp [seconds]
            | [], h => simp at h
            | [_, _], h => simp at h
            | [_, _, _, _], h => simp at h
            | _ :: _ :: _ :: _ :: _ :: _ :: _, h => simp at h
          exact sz_of (by omega)
        · have hsec : (k :: n :: a).drop 3 = a.tail := by
            cases a <;> rfl
          refine ⟨A, x, l, seconds a.tail, rfl, T1.mono (e5.trans (Ex.new hl)), sq_of ?_, ?_, fun H6 e6 => q5 H6 ((Ex.new hl).trans e6)⟩
          · rw [upd_same, pick_seconds _ hlen, hsec]
          · match a, hlen with
            | [_], _ => simp [seconds]
            | [_, _, _], _ => simp [seconds]
            | [_, _, _, _, _], _ => simp [seconds]
            | [], h => simp at h
            | [_, _], h => simp at h
            | [_, _, _, _], h => simp at h
            | _ :: _ :: _ :: _ :: _ :: _ :: _, h => simp at h
      · rw [hka]
        have hsec : (kAct :: n :: a).drop 3 = a.tail := by
          cases a <;> rfl
        show ((x.acts.map fun a => a.name).contains n || wrongPlaces x (seconds ((kAct :: n :: a).drop 3))) = _
        rw [hsec]
    have n4 : ¬ k = kAct := of_decide_eq_false c4
    refine s_ret ev_c fun H5 e5 => fin _ ((e0.trans (((e1.trans e2).trans e3).trans e4)).trans e5) ?_
    unfold nameAgain
    show (if k = kKind then _ else if k = kThing then _ else if k = kFact then _ else if k = kAct then _ else false) = false
    rw [if_neg n1, if_neg n2, if_neg n3, if_neg n4]
/-! ### lowest_fault -/
abbrev s_lowest_fault : Stmt := top 48
theorem sc_lowest_fault : FnScope ["text", "words"] ["text", "words"] (defScope s_lowest_fault) := ⟨rfl, rfl, rfl, by decide +kernel, rfl, by decide +kernel, by decide +kernel⟩
def sp_lowest (K : PySem.W.Frag) (CT CA : Addr) : Sp := fun vs H Q _ => ∃ (A : TextA) (x : Pn16.Text) (p : Addr) (ws : List (List Nat)), vs = [.ref A.a, .ref p] ∧ TextAt CT CA H A x ∧ TextOk x ∧ SqL K H p (txts ws) ∧ WordsOk ws ∧ ∀ H2, Ex H H2 → Q (.int (lowest x ws : Nat)) H2
theorem has_lowest {f : Addr} {fd : FuncData} (F : Fun K "lowest_fault" "lowest_fault" s_lowest_fault f fd) (O : Own mg) (C : Clss K CT CA) (B : Tabs K w mg dR dC dM tO) (g : mg "lowest_fault" = some (.ref f)) (h_is_no_line : Has P w K mg base 1 "is_no_line" ["words"] (sp_is_no_line K)) (h_has_wrong_word : Has P w K mg base 2 "has_wrong_word" ["words"] (sp_has_wrong_word K))
    (h_takes_a_name_again : Has P w K mg base 2 "takes_a_name_again" ["text", "words"] (sp_name_again K CT CA)) (h_names_what_is_not_there : Has P w K mg base 3 "names_what_is_not_there" ["text", "words"] (sp_not_there K CT CA)) (h_has_other_kinds : Has P w K mg base 2 "has_other_kinds" ["text", "words"] (sp_other_kinds K CT CA)) (h_count_told : Has P w K mg base 2 "count_told" ["text", "sort"] (sp_count_told CT CA)) :
    Has P w K mg base 4 "lowest_fault" ["text", "words"] (sp_lowest K CT CA) := by
  refine ⟨f, fd, F.ok sc_lowest_fault (fun vs H Q E h => ?_) (fun cdv A outer s H vs Q E hr h => ?_), g, F.kp, F.binds fun _ _ _ _ _ _ us hl => match us, hl with | [_, _], _ => rfl⟩
  · obtain ⟨_, _, _, _, rfl, _⟩ := h
    rfl
  · obtain ⟨A, x, p, ws, rfl, T, hx, hp, W, q⟩ := h
    refine ⟨_, (pss_cons (ps_if (pt_val (pe_own h_is_no_line (hr.mono (by decide)) rfl (pa_cons (pv 1) pa_nil))) (pss_one (ps_ret pe_int)) pss_nil)
      (pss_cons (ps_if (pt_val (pe_own h_has_wrong_word (hr.mono (by decide)) rfl (pa_cons (pv 1) pa_nil))) (pss_one (ps_ret pe_int)) pss_nil)
      (pss_cons (ps_if (pt_val (pe_own h_takes_a_name_again (hr.mono (by decide)) rfl (pa_cons (pv 0) (pa_cons (pv 1) pa_nil)))) (pss_one (ps_ret pe_int)) pss_nil)
      (pss_cons (ps_if (pt_val (pe_own h_names_what_is_not_there (hr.mono (by decide)) rfl (pa_cons (pv 0) (pa_cons (pv 1) pa_nil)))) (pss_one (ps_ret pe_int)) pss_nil)
      (pss_cons (ps_if (pt_val (pe_own h_has_other_kinds (hr.mono (by decide)) rfl (pa_cons (pv 0) (pa_cons (pv 1) pa_nil)))) (pss_one (ps_ret pe_int)) pss_nil)
      (pss_cons (ps_if (pt_cmpR op_ge (pe_own h_count_told (hr.mono (by decide)) rfl (pa_cons (pv 0) (pa_cons (pe_ix ix_list (pv 1) pe_int (fun _ _ => rfl)) pa_nil))) (pe_ix ix_kdict (pe_gref B.gM rfl) (pe_ix ix_list (pv 1) pe_int (fun _ _ => rfl)) (fun _ _ => rfl)) (nomark _)) (pss_one (ps_ret pe_int)) pss_nil)
      (pss_cons (ps_if (PW.pt (pw_and (pt_cmpR op_in_seq (pe_ix ix_list (pv 1) pe_int (fun _ _ => rfl)) (pe_gref B.gO rfl) (by rfl)) (pw_and1 (pt_cmpR op_eq (pe_callB call_len_seq (by rfl) O.len (by decide +kernel) (pa_cons (pe_fld (pv 0) rfl) pa_nil)) pe_int (nomark _))))) (pss_one (ps_ret pe_int)) pss_nil)
      (pss_one (ps_ret (pe_gint B.noF rfl)))))))))), ?_⟩
    have hv0 : ∀ F : Hp, Ev (tVar 0) (start ["text", "words"] [.ref A.a, .ref p]) F (.ref A.a) := fun _ => ev_var rfl
    have hv1 : ∀ F : Hp, Ev (tVar 1) (start ["text", "words"] [.ref A.a, .ref p]) F (.ref p) := fun _ => ev_var rfl
    have fin : ∀ {H2 : Hp} (n : Nat), Ex H H2 → lowest x ws = n → Q (.int (n : Int)) H2 := fun n e2 en => by
      have z := q _ e2
      rw [en] at z
      exact z
    obtain ⟨k, r, rfl⟩ := W.head
    refine q_when (et_B (ev_call (v := .bl (noLine (k :: r))) (ea_cons (hv1 _) ea_nil) fun H3 e3 Q3 q3 => ⟨p, _, rfl, ex_l e3 hp, W, q3⟩)) (fun c H1 e1 => s_ret ev_c fun H2 e2 => fin 2 (e1.trans e2) (low2 c)) (fun c1 H1 e1 => ?_)
    have hc : (countsOf k).isSome = true := noLine_some c1
    refine q_when (et_B (ev_call (v := .bl (wrongWord (k :: r))) (ea_cons (hv1 _) ea_nil) fun H3 e3 Q3 q3 => ⟨p, _, rfl, ex_l (e1.trans e3) hp, W, hc, q3⟩)) (fun c H2 e2 => s_ret ev_c fun H3 e3 => fin 3 ((e1.trans e2).trans e3) ?_) (fun c2 H2 e2 => ?_)
    · unfold lowest
      rw [c1, c] <;> rfl
    have e12 := e1.trans e2
    refine q_when (et_B (ev_call (v := .bl (nameAgain x (k :: r))) (ea_cons (hv0 _) (ea_cons (hv1 _) ea_nil)) fun H3 e3 Q3 q3 => ⟨A, x, p, _, rfl, T.mono (e12.trans e3), hx, ex_l (e12.trans e3) hp, W, c1, q3⟩)) (fun c H3 e3 => s_ret ev_c fun H4 e4 => fin 4 ((e12.trans e3).trans e4) ?_) (fun c3 H3 e3 => ?_)
    · unfold lowest
      rw [c1, c2, c] <;> rfl
    have e13 := e12.trans e3
    refine q_when (et_B (ev_call (v := .bl (notThere x (k :: r))) (ea_cons (hv0 _) (ea_cons (hv1 _) ea_nil)) fun H4 e4 Q3 q3 => ⟨A, x, p, _, rfl, T.mono (e13.trans e4), ex_l (e13.trans e4) hp, W, hc, q3⟩)) (fun c H4 e4 => s_ret ev_c fun H5 e5 => fin 5 ((e13.trans e4).trans e5) ?_) (fun c4 H4 e4 => ?_)
    · unfold lowest
      rw [c1, c2, c3, c] <;> rfl
    have e14 := e13.trans e4
    refine q_when (et_B (ev_call (v := .bl (otherKinds x (k :: r))) (ea_cons (hv0 _) (ea_cons (hv1 _) ea_nil)) fun H5 e5 Q3 q3 => ⟨A, x, p, _, rfl, T.mono (e14.trans e5), hx, ex_l (e14.trans e5) hp, W, c1, c4, q3⟩)) (fun c H5 e5 => s_ret ev_c fun H6 e6 => fin 6 ((e14.trans e5).trans e6) ?_) (fun c5 H5 e5 => ?_)
    · unfold lowest
      rw [c1, c2, c3, c4, c] <;> rfl
    have e15 := e14.trans e5
    have hk : ∀ F, Ex H F → Ev (tOp (rIxL K) (tVar 1) (tC (.int 0))) (start ["text", "words"] [.ref A.a, .ref p]) F (.str (S k)) := fun F e => ev_txt (K := K) (i := 0) (w := k) (ev_var rfl) ev_c (ex_l e hp) rfl
    refine q_when (et_is (et_cmpI (f := fun i j => decide (j ≤ i)) (i := (countTold x k : Nat)) (j := (mostOf k : Nat)) (ev_call (ea_cons (hv0 _) (ea_cons (hk H5 e15) ea_nil)) fun H6 e6 Q3 q3 => ⟨A, x, k, rfl, T.mono (e15.trans e6), hc, q3⟩) (ev_op ev_c (hk H5 e15) fun H6 _ _ z => ⟨dM, S k, _, rfl, rfl, B.most k hc, z H6 (Ex.refl H6)⟩)) (b := decide (mostOf k ≤ countTold x k)) (by rw [decide_eq_decide]; omega)) (fun c H6 e6 => s_ret ev_c fun H7 e7 => fin 7 ((e15.trans e6).trans e7) ?_) (fun c6 H6 e6 => ?_)
    · unfold lowest
      rw [c1, c2, c3, c4, c5]
      show (if mostOf k ≤ countTold x k then 7 else _) = 7
      rw [if_pos (of_decide_eq_true c)]
    have e16 := e15.trans e6
    have T6 := T.mono e16
    have hin : ([kNeeds, kBars, kBrings, kTakes] : List (List Nat)).contains k = ofAct k := by
      unfold ofAct
      rw [Bool.eq_iff_iff, List.contains_iff_mem, decide_eq_true_iff]
      simp
    refine q_when (et_and (a := ofAct k) (b := decide (x.acts = [])) (et_test (ev_is (ev_inT (K := K) (w := k) (hk H6 e16) ev_c (B.ofAct H6)) (by rw [hin]))) fun _ => et_is (ev_isEmpty (K := K) (ev_acts T6 C (hv0 _)) (sq_of T6.acts)) ?_) (fun c H7 e7 => s_ret ev_c fun H8 e8 => fin 8 ((e16.trans e7).trans e8) ?_) (fun c7 H7 e7 => s_ret ev_c fun H8 e8 => fin 0 ((e16.trans e7).trans e8) ?_)
    · rw [decide_eq_decide, List.map_eq_nil_iff]
      exact T.noActs
    · rw [Bool.and_eq_true, decide_eq_true_iff] at c
      unfold lowest
      rw [c1, c2, c3, c4, c5]
      show (if mostOf k ≤ countTold x k then 7 else if ofAct k = true ∧ x.acts = [] then 8 else 0) = 8
      rw [if_neg (of_decide_eq_false c6), if_pos c]
    · rw [Bool.and_eq_false_iff, decide_eq_false_iff_not] at c7
      unfold lowest
      rw [c1, c2, c3, c4, c5]
      show (if mostOf k ≤ countTold x k then 7 else if ofAct k = true ∧ x.acts = [] then 8 else 0) = 0
      rw [if_neg (of_decide_eq_false c6), if_neg]
      rintro ⟨h1, h2⟩
      rcases c7 with c7 | c7
      · rw [h1] at c7
        cases c7
      · exact c7 h2
end
end KP
set_option Elab.async false
set_option linter.all false
set_option maxRecDepth 100000
set_option maxHeartbeats 400000
/-! rows.py: what comes of a text. -/
namespace KP
open PySem PySem.Spec PyProof.Rows L2 Evl
section
variable {K : PySem.W.Frag} {mg : Str → Option Value} {P : Program} {w : World} {base : Heap} {CT CA : Addr}
/-- tuples of numbers -/
def TupsAt (K : PySem.W.Frag) (H : Hp) (as : List Addr) (R : List (List Nat)) : Prop := P2 (fun a r => SqT K H a (bytesV r)) as R
theorem sqT_upd {H : Hp} {l a : Addr} {xs ys zs : List V} (hl : H l = some (.lst ys)) (h : SqT K H a xs) : SqT K (upd H l (.lst zs)) a xs := by
  rcases h with (h | ⟨o, h⟩) | h
  · have hne : a ≠ l := ne_of h hl (fun z => nomatch z)
    exact .inl (.inl (by rw [upd_ne hne]; exact h))
  · have hne : a ≠ l := ne_of h hl (fun z => nomatch z)
    exact .inl (.inr ⟨o, by rw [upd_ne hne]; exact h⟩)
  · exact .inr h
theorem TupsAt.mono {H H' : Hp} {as : List Addr} {R : List (List Nat)} (e : Ex H H') (h : TupsAt K H as R) : TupsAt K H' as R := P2.mono (fun _ _ z => ex_t e z) h
theorem TupsAt.upd {H : Hp} {l : Addr} {ys zs : List V} {as : List Addr} {R : List (List Nat)} (hl : H l = some (.lst ys)) (h : TupsAt K H as R) : TupsAt K (upd H l (.lst zs)) as R := P2.mono (fun _ _ z => sqT_upd hl z) h
/-! ### longer_rows -/
abbrev s_longer_rows : Stmt := top 5
theorem sc_longer_rows : FnScope ["rows", "things", "longer", "row", "thing"] ["rows", "things"] (defScope s_longer_rows) := ⟨rfl, rfl, rfl, by decide +kernel, rfl, by decide +kernel, by decide +kernel⟩
def sp_longer_rows (K : PySem.W.Frag) : Sp := fun vs H Q _ => ∃ (p q : Addr) (as : List Addr) (R : List (List Nat)) (T : List Nat), vs = [.ref p, .ref q] ∧ SqL K H p (as.map V.ref) ∧ TupsAt K H as R ∧ SqL K H q (bytesV T) ∧ R.length ≤ 100 ∧ T.length ≤ 100 ∧ (∀ r ∈ R, r.length ≤ 100) ∧
  ∀ l as2 H2, H l = none → Ex H H2 → H2 l = some (.lst (as2.map V.ref)) → TupsAt K H2 as2 (longer R T) → Q (.ref l) H2
theorem longer_snoc (R : List (List Nat)) (r : List Nat) (T : List Nat) : longer (R ++ [r]) T = longer R T ++ T.map fun i => r ++ [i] := by
  unfold longer
  rw [List.flatMap_append]
  simp
theorem longer_len (R : List (List Nat)) (T : List Nat) : (longer R T).length = R.length * T.length := by
  induction R with
  | nil => simp [longer]
  | cons r R ih =>
    have e : longer (r :: R) T = (T.map fun i => r ++ [i]) ++ longer R T := rfl
    rw [e, List.length_append, List.length_map, ih, List.length_cons, Nat.succ_mul]
    omega
theorem has_longer_rows {f : Addr} {fd : FuncData} (F : Fun K "longer_rows" "longer_rows" s_longer_rows f fd) (O : Own mg) (g : mg "longer_rows" = some (.ref f)) : Has P w K mg base 1 "longer_rows" ["rows", "things"] (sp_longer_rows K) := by
  refine ⟨f, fd, F.ok sc_longer_rows (fun vs H Q E h => ?_) (fun cdv A outer s H vs Q E hr h => ?_), g, F.kp, F.binds fun _ _ _ _ _ _ us hl => match us, hl with | [_, _], _ => rfl⟩
  · obtain ⟨_, _, _, _, _, rfl, _⟩ := h
    rfl
  · obtain ⟨p, b, as, R, T, rfl, hp, hR, hT, zR, zT, zr, q⟩ := h
    refine ⟨_, (pss_cons (ps_set (i := 2) sc_longer_rows.nd rfl (Or.inl rfl) (pe_lst pa_nil))
      (pss_cons (ps_for PassesOwn.never rfl (pi_list (pv 0)) (pg_name (i := 3) sc_longer_rows.nd rfl (Or.inl rfl)) (pss_one (ps_for PassesOwn.never rfl (pi_list (pv 1)) (pg_name (i := 4) sc_longer_rows.nd rfl (Or.inl rfl)) (pss_one (ps_expr (pe_bm PySem.F.plainAttrs_list PySem.F.slot_list_append PySem.F.type_list_append mt_append (pv 2) (pa_cons (pe_op op_catA (pv 3) (pe_tup (pa_cons (pv 4) pa_nil))) pa_nil)))))))
      (pss_one (ps_ret (pv 2))))), ?_⟩
    refine ⟨Nat.zero_le _, fun l hl => ?_⟩
    have hlen := hR.length
    have big : ∀ i, (longer (R.take i) T).length ≤ 10000 := fun i => by
      rw [longer_len]
      have h1 : (R.take i).length ≤ 100 := by rw [List.length_take]; omega
      calc (R.take i).length * T.length ≤ 100 * 100 := Nat.mul_le_mul h1 zT
        _ = 10000 := rfl
    have hgo := goes_list (K := K) (F := H) (σ := (start ["rows", "things", "longer", "row", "thing"] [.ref p, .ref b]).set 2 (some (.ref l))) (tl := tVar 0) (ev_var rfl) hp
    rw [List.length_map] at hgo
    refine q_for hgo (Ex.new hl) (fun i σ H' => ∃ (as2 : List Addr) (y3 y4 : Option V), σ = [some (.ref p), some (.ref b), some (.ref l), y3, y4] ∧ Ex H H' ∧ H' l = some (.lst (as2.map V.ref)) ∧ TupsAt K H' as2 (longer (R.take i) T)) ?_ ?_ ?_ ?_
    · intro H1 e1
      exact ⟨[], none, none, rfl, (Ex.new hl).trans e1, e1 _ _ upd_same, .nil⟩
    · rintro i σ' H' _ ⟨_, _, _, _, e1, _⟩
      exact e1
    · rintro i x σ' H1 H' hi ⟨as2, y3, y4, rfl, e1, hl1, t1⟩ ⟨rfl, hx⟩
      have ha : as[i]? = some as[i] := List.getElem?_eq_getElem hi
      obtain ⟨r, hr1, hr2⟩ := P2.geta hR ha
      rw [List.getElem?_map, ha] at hx
      have ex := Option.some.inj hx
      subst ex
      have htk : R.take (i + 1) = R.take i ++ [r] := take_succ hr1
      have hrl := zr r (List.mem_of_getElem? hr1)
      have hgo2 := goes_list (K := K) (F := H) (σ := [some (.ref p), some (.ref b), some (.ref l), some (.ref as[i]), y4]) (tl := tVar 1) (ev_var rfl) hT
      rw [List.length_map] at hgo2
      refine s_for hgo2 e1 (fun j σ H' => ∃ (as3 : List Addr) (y4 : Option V), σ = [some (.ref p), some (.ref b), some (.ref l), some (.ref as[i]), y4] ∧ Ex H H' ∧ H' l = some (.lst (as3.map V.ref)) ∧ TupsAt K H' as3 (longer (R.take i) T ++ (T.take j).map fun c => r ++ [c])) ?_ ?_ ?_ ?_
      · intro H2 e2
        refine ⟨as2, y4, rfl, e1.trans e2, e2 _ _ hl1, ?_⟩
        have t2 := t1.mono e2
        simpa using t2
      · rintro j σ' H' _ ⟨_, _, _, e2, _⟩
        exact e2
      · rintro j x σ' H2 H'' hj ⟨as3, y4, rfl, e2, hl2, t2⟩ ⟨rfl, hx⟩
        have hc : T[j]? = some T[j] := List.getElem?_eq_getElem hj
        rw [List.getElem?_map, hc] at hx
        have ex := Option.some.inj hx
        subst ex
        have hl3 := t2.length
        rw [List.length_append, List.length_map] at hl3
        have hb1 := big i
        have hb2 : (T.take j).length ≤ 100 := by rw [List.length_take]; omega
        -- longer.append(row + (thing,))
        have hrow := ex_t e2 hr2
        refine ⟨_, rfl, .inl ⟨rfl, _, sq_of hl2⟩, _, rfl, _, rfl, Nat.le_of_lt (by show 1 < sizeLine; decide), fun d hd => ?_⟩
        have hld : l ≠ d := ne_of_none hl2 hd
        have hl4 : (upd H'' d (.tup [V.int (T[j] : Int)])) l = some (.lst (as3.map V.ref)) := by
          rw [upd_ne hld]
          exact hl2
        have e3 : Ex H'' (upd H'' d (.tup [V.int (T[j] : Int)])) := Ex.new hd
        have fin : ∀ (c : Addr) (H3 : Hp), Ex (upd H'' d (.tup [V.int (T[j] : Int)])) H3 → SqT K H3 c (bytesV (r ++ [T[j]])) → ∃ l' xs y, (V.ref l : V) = .ref l' ∧ ([V.ref c] : List V) = [y] ∧ H3 l' = some (.lst xs) ∧ xs.length < sizeLine ∧ ∃ (as3 : List Addr) (y4 : Option V), ([some (.ref p), some (.ref b), some (.ref l), some (.ref as[i]), some (.int (T[j] : Int))] : L2.St) = [some (.ref p), some (.ref b), some (.ref l), some (.ref as[i]), y4] ∧ Ex H (upd H3 l' (.lst (xs ++ [y]))) ∧ (upd H3 l' (.lst (xs ++ [y]))) l = some (.lst (as3.map V.ref)) ∧ TupsAt K (upd H3 l' (.lst (xs ++ [y]))) as3 (longer (R.take i) T ++ (T.take (j + 1)).map fun c => r ++ [c]) := fun c H3 e4 hc3 => by
          have hl5 := e4 _ _ hl4
          refine ⟨l, _, _, rfl, rfl, hl5, sz_lt (by rw [List.length_map]; omega), as3 ++ [c], _, rfl, Ex.mut ((e2.trans e3).trans e4) hl, ?_, ?_⟩
          · rw [upd_same, List.map_append] <;> rfl
          · refine TupsAt.upd hl5 ?_
            rw [take_succ hc, List.map_append, ← List.append_assoc]
            exact P2.snoc (R := fun a r => SqT K H3 a (bytesV r)) hc3 (t2.mono (e3.trans e4))
        by_cases hre : r = []
        · refine ⟨as[i], d, bytesV r, [V.int (T[j] : Int)], rfl, rfl, ex_t e3 hrow, st_of upd_same, ?_, fun _ => ?_, fun h => absurd (by rw [hre]; rfl) h, fun h => absurd (by rw [hre]; rfl) h⟩
          · rw [List.length_map]
            exact sz_of (by simp; omega)
          · refine fin d _ (Ex.refl _) (st_of ?_)
            rw [upd_same, hre] <;> rfl
        · have hbe : bytesV r ≠ [] := fun h => hre (List.map_eq_nil_iff.mp h)
          refine ⟨as[i], d, bytesV r, [V.int (T[j] : Int)], rfl, rfl, ex_t e3 hrow, st_of upd_same, ?_, fun h => absurd h hbe, fun _ h => (nomatch h), fun _ _ c hcn => ?_⟩
          · rw [List.length_map]
            exact sz_of (by simp; omega)
          · refine fin c _ (Ex.new hcn) (st_of ?_)
            rw [upd_same]
            unfold bytesV
            rw [List.map_append] <;> rfl
      · rintro σ' H' ⟨as3, y4, rfl, e2, hl2, t2⟩
        refine ⟨as3, _, y4, rfl, e2, hl2, ?_⟩
        rw [htk, longer_snoc]
        rw [List.take_length] at t2
        exact t2
    · rintro σ' H' ⟨as2, y3, y4, rfl, e1, hl1, t1⟩
      refine s_ret (ev_var rfl) fun H2 e2 => q l as2 H2 hl (e1.trans e2) (e2 _ _ hl1) ?_
      rw [hlen, List.take_length] at t1
      exact t1.mono e2
/-! ### things_of -/
theorem goes_enum {σ : L2.St} {F : Hp} {ta : TE} {a : Addr} {xs : List V} (ha : Ev ta σ F (.ref a)) (hx : SqL K F a xs) : Goes (iEnum K (tCons ta tNil)) σ F xs.length (YPair (fun i => some (.int (i : Nat))) (fun i => xs[i]?)) := fun H1 e R q =>
  ha H1 e _ fun H2 e2 => ⟨a, xs, rfl, ex_l (e.trans e2) hx, q _ H2 e2 (walk_enum.mono (fun H g => ex_l g hx) (fun _ _ _ _ _ _ y => y))⟩
/-- a pair unpacked into two names -/
theorem g_pair {σ : L2.St} {H : Hp} {T : Addr} {x y : V} {i j : Nat} {Q : L2.St → Hp → Prop} (hT : H T = some (.tup [x, y])) (h : Q ((σ.set i (some x)).set j (some y)) H) : gTup K 2 (gCons (gName i) (gCons (gName j) gNil)) (.ref T) σ H Q :=
  ⟨T, [x, y], rfl, st_of hT, rfl, x, [y], rfl, y, [], rfl, rfl, h⟩
abbrev s_things_of : Stmt := top 6
theorem sc_things_of : FnScope ["text", "kind", "number", "own"] ["text", "kind"] (defScope s_things_of) := ⟨rfl, rfl, rfl, by decide +kernel, rfl, by decide +kernel, by decide +kernel⟩
def sp_things_of (CT CA : Addr) : Sp := fun vs H Q _ => ∃ (A : TextA) (x : Pn16.Text) (k : Nat), vs = [.ref A.a, .str (S (kindName x k))] ∧ TextAt CT CA H A x ∧ TextOk x ∧ k < x.kinds.length ∧ ∀ l H2, H l = none → Ex H H2 → H2 l = some (.lst (bytesV (ofKind x k))) → Q (.ref l) H2
theorem given_ofKind {x : Pn16.Text} (hx : TextOk x) {k : Nat} (hk : k < x.kinds.length) : given x.things.length (fun i => decide (kindName x (((x.things[i]?).map fun t => t.2).getD 0) = kindName x k)) (fun i => V.int (i : Nat)) = bytesV (ofKind x k) := by
  unfold given ofKind bytesV
  congr 1
  refine List.filter_congr fun i hi => ?_
  have hi' : i < x.things.length := List.mem_range.mp hi
  rw [List.getElem?_eq_getElem hi']
  show decide (kindName x (x.things[i]).2 = kindName x k) = (some (x.things[i]).2 == some k)
  have hlt := (hx.things.2.2 _ (List.getElem_mem hi')).2
  by_cases e : (x.things[i]).2 = k
  · rw [e]
    simp
  · have h1 : ¬ kindName x (x.things[i]).2 = kindName x k := fun z => e (kind_inj hx hlt hk z)
    rw [decide_eq_false h1]
    cases hb : (some (x.things[i]).2 == some k) with
    | false => rfl
    | true => exact absurd (Option.some.inj (eq_of_beq hb)) e
theorem has_things_of {f : Addr} {fd : FuncData} (F : Fun K "things_of" "things_of" s_things_of f fd) (O : Own mg) (C : Clss K CT CA) (g : mg "things_of" = some (.ref f)) : Has P w K mg base 1 "things_of" ["text", "kind"] (sp_things_of CT CA) := by
  refine ⟨f, fd, F.ok sc_things_of (fun vs H Q E h => ?_) (fun cdv A outer s H vs Q E hr h => ?_), g, F.kp, F.binds fun _ _ _ _ _ _ us hl => match us, hl with | [_, _], _ => rfl⟩
  · obtain ⟨_, _, _, rfl, _⟩ := h
    rfl
  · obtain ⟨A, x, k, rfl, T, hx, hk, q⟩ := h
    refine ⟨_, (pss_one (ps_ret (pe_lc (own := [("number", 2), ("own", 3)]) (g := gTup K 2 (gCons (gName 2) (gCons (gName 3) gNil))) (tt := tTest (tOp rEq (tVar 3) (tVar 1))) rfl sc_things_of.nd (pi_enum (by rfl) O.enum (pa_cons (pe_fld (pv 0) (by rfl)) pa_nil)) (blkOk_by (N := ["text", "kind", "number", "own"]) (sc := defScope s_things_of) (by decide +kernel)) (fun _ _ _ _ _ => (pg_tup rfl (pgs_cons (pg_name (i := 2) sc_things_of.nd rfl (Or.inl rfl)) (pgs_cons (pg_name (i := 3) sc_things_of.nd rfl (Or.inl rfl)) pgs_nil)))) (fun _ _ _ _ _ => (pts_one (pt_cmpR op_eq (pv 3) (pv 1) (nomark _)))) (fun _ _ _ _ _ => (pv 2))))), ?_⟩
    refine s_retL (xs := bytesV (ofKind x k)) ?_ fun l H1 hl e1 h1 => q l H1 hl e1 h1
    rw [← given_ofKind hx hk]
    have hgo := goes_enum (K := K) (σ := start ["text", "kind", "number", "own"] [.ref A.a, .str (S (kindName x k))]) (ta := tFld K (tVar 0) "thing_kinds") (ev_thingKinds T C (ev_var rfl)) (sq_of T.thingKinds)
    rw [List.length_map, List.length_map] at hgo
    have h6 := hx.things.1
    refine el_it hgo.new (by omega) _ _ fun i v H1 H' hi e1 y Q' q' => ?_
    obtain ⟨N, u, o, rfl, hN, rfl, hu, ho⟩ := y
    have hu' : V.int (i : Nat) = u := Option.some.inj hu
    subst hu'
    have ho' : (txts (x.things.map fun t => kindName x t.2))[i]? = some o := ho
    rw [List.getElem?_map, List.getElem?_map, List.getElem?_eq_getElem hi] at ho'
    have eo : V.str (S (kindName x (x.things[i]).2)) = o := Option.some.inj ho'
    subst eo
    refine g_pair (K := K) upd_same ?_
    refine q' _ _ (Ex.new hN) rfl (et_is (et_eqS (ev_var rfl) (ev_var rfl)) ?_) fun _ => ev_var rfl
    rw [S_eq, List.getElem?_eq_getElem hi] <;> rfl
/-! ### rows_of -/
abbrev s_rows_of : Stmt := top 4
theorem sc_rows_of : FnScope ["text", "kinds", "rows", "kind"] ["text", "kinds"] (defScope s_rows_of) := ⟨rfl, rfl, rfl, by decide +kernel, rfl, by decide +kernel, by decide +kernel⟩
def sp_rows_of (K : PySem.W.Frag) (CT CA : Addr) : Sp := fun vs H Q _ => ∃ (A : TextA) (x : Pn16.Text) (b : Addr) (ks : List Nat), vs = [.ref A.a, .ref b] ∧ TextAt CT CA H A x ∧ TextOk x ∧ SqL K H b (txts (ks.map (kindName x))) ∧ ks.length ≤ 2 ∧ (∀ k ∈ ks, k < x.kinds.length) ∧
  ∀ l as H2, H l = none → Ex H H2 → H2 l = some (.lst (as.map V.ref)) → TupsAt K H2 as (Pn16.rows x ks) → Q (.ref l) H2
theorem ofKind_len {x : Pn16.Text} (hx : TextOk x) (k : Nat) : (ofKind x k).length ≤ 6 := by
  have h := List.length_filter_le (fun i => ((x.things[i]?).map fun t => t.2) == some k) (List.range x.things.length)
  rw [List.length_range] at h
  exact Nat.le_trans h hx.things.1
theorem rows_len {x : Pn16.Text} (hx : TextOk x) : ∀ ks : List Nat, (Pn16.rows x ks).length ≤ 6 ^ ks.length ∧ ∀ r ∈ Pn16.rows x ks, r.length = ks.length
  | [] => ⟨by simp [Pn16.rows], fun r hr => by
    have : r = [] := by simpa [Pn16.rows] using hr
    rw [this]⟩
  | k :: ks => by
    obtain ⟨h1, h2⟩ := rows_len hx ks
    rw [rows_cons]
    refine ⟨?_, fun r hr => ?_⟩
    · have : ∀ l : List Nat, (l.flatMap fun i => (Pn16.rows x ks).map fun r => i :: r).length = l.length * (Pn16.rows x ks).length := by
        intro l
        induction l with
        | nil => simp
        | cons a l ih =>
          rw [List.flatMap_cons, List.length_append, ih, List.length_map, List.length_cons, Nat.succ_mul]
          omega
      rw [this, List.length_cons, Nat.pow_succ, Nat.mul_comm]
      exact Nat.mul_le_mul h1 (ofKind_len hx k)
    · obtain ⟨i, _, hr⟩ := List.mem_flatMap.mp hr
      obtain ⟨u, hu, rfl⟩ := List.mem_map.mp hr
      rw [List.length_cons, h2 u hu, List.length_cons]
theorem rows_fold_is (x : Pn16.Text) (ks : List Nat) : ks.foldl (fun R k => longer R (ofKind x k)) [[]] = Pn16.rows x ks := rows_is x ks
theorem has_rows_of {f : Addr} {fd : FuncData} (F : Fun K "rows_of" "rows_of" s_rows_of f fd) (O : Own mg) (g : mg "rows_of" = some (.ref f)) (h_longer_rows : Has P w K mg base 1 "longer_rows" ["rows", "things"] (sp_longer_rows K)) (h_things_of : Has P w K mg base 1 "things_of" ["text", "kind"] (sp_things_of CT CA)) : Has P w K mg base 2 "rows_of" ["text", "kinds"] (sp_rows_of K CT CA) := by
  refine ⟨f, fd, F.ok sc_rows_of (fun vs H Q E h => ?_) (fun cdv A outer s H vs Q E hr h => ?_), g, F.kp, F.binds fun _ _ _ _ _ _ us hl => match us, hl with | [_, _], _ => rfl⟩
  · obtain ⟨_, _, _, _, rfl, _⟩ := h
    rfl
  · obtain ⟨A, x, b, ks, rfl, T, hx, hb, zk, hk, q⟩ := h
    refine ⟨_, (pss_cons (ps_set (i := 2) sc_rows_of.nd rfl (Or.inl rfl) (pe_lst (pa_cons (pe_tup pa_nil) pa_nil)))
      (pss_cons (ps_for PassesOwn.never rfl (pi_list (pv 1)) (pg_name (i := 3) sc_rows_of.nd rfl (Or.inl rfl)) (pss_one (ps_set (i := 2) sc_rows_of.nd rfl (Or.inl rfl) (pe_own h_longer_rows (hr.mono (by decide)) rfl (pa_cons (pv 2) (pa_cons (pe_own h_things_of (hr.mono (by decide)) rfl (pa_cons (pv 0) (pa_cons (pv 3) pa_nil))) pa_nil))))))
      (pss_one (ps_ret (pv 2))))), ?_⟩
    refine ⟨Nat.zero_le _, fun c hc => ⟨Nat.le_of_lt (by show 1 < sizeLine; decide), fun l hl => ?_⟩⟩
    have ec : Ex H (upd H c (.tup [])) := Ex.new hc
    have el : Ex (upd H c (.tup [])) (upd (upd H c (.tup [])) l (.lst [.ref c])) := Ex.new hl
    have hgo := goes_list (K := K) (F := H) (σ := (start ["text", "kinds", "rows", "kind"] [.ref A.a, .ref b]).set 2 (some (.ref l))) (tl := tVar 1) (ev_var rfl) hb
    rw [List.length_map, List.length_map] at hgo
    refine q_for hgo (ec.trans el) (fun i σ H' => ∃ (l' : Addr) (as : List Addr) (y : Option V), σ = [some (.ref A.a), some (.ref b), some (.ref l'), y] ∧ Ex H H' ∧ H l' = none ∧ H' l' = some (.lst (as.map V.ref)) ∧ TupsAt K H' as (Pn16.rows x (ks.take i))) ?_ ?_ ?_ ?_
    · intro H1 e1
      refine ⟨l, [c], none, rfl, (ec.trans el).trans e1, fresh_back ec hl, e1 _ _ upd_same, ?_⟩
      refine .cons (st_of (e1 _ _ ?_)) .nil
      have hcl : c ≠ l := ne_of_none (upd_same (H := H) (a := c) (o := .tup [])) hl
      rw [upd_ne hcl, upd_same] <;> rfl
    · rintro i σ' H' _ ⟨_, _, _, _, e1, _⟩
      exact e1
    · rintro i v σ' H1 H' hi ⟨l', as, y, rfl, e1, hl', hl1, t1⟩ ⟨rfl, hx1⟩
      have hk1 : ks[i]? = some ks[i] := List.getElem?_eq_getElem hi
      rw [List.getElem?_map, List.getElem?_map, hk1] at hx1
      have ev := Option.some.inj hx1
      subst ev
      have hlt : ks[i] < x.kinds.length := hk _ (List.getElem_mem hi)
      obtain ⟨r1, r2⟩ := rows_len hx (ks.take i)
      have hti : (ks.take i).length ≤ 1 := by rw [List.length_take]; omega
      have hp6 : (6 : Nat) ^ (ks.take i).length ≤ 6 := by
        calc (6 : Nat) ^ (ks.take i).length ≤ 6 ^ 1 := Nat.pow_le_pow_right (by decide) hti
          _ = 6 := rfl
      have ho6 := ofKind_len hx ks[i]
      -- rows = longer_rows(rows, things_of(text, kind))
      refine ⟨_, rfl, _, rfl, _, rfl, A, x, ks[i], rfl, T.mono e1, hx, hlt, fun d H2 hd e2 h2 => ?_⟩
      refine ⟨l', d, as, Pn16.rows x (ks.take i), ofKind x ks[i], rfl, sq_of (e2 _ _ hl1), t1.mono e2, sq_of h2, by omega, by omega, fun r hr => by rw [r2 r hr]; omega, fun l2 as2 H3 hl2 e3 h3 t3 => ?_⟩
      refine ⟨l2, as2, _, rfl, (e1.trans e2).trans e3, fresh_back (e1.trans e2) hl2, h3, ?_⟩
      have e : Pn16.rows x (ks.take (i + 1)) = longer (Pn16.rows x (ks.take i)) (ofKind x ks[i]) := by
        rw [← rows_fold_is, ← rows_fold_is, take_succ hk1, List.foldl_append] <;> rfl
      rw [e]
      exact t3
    · rintro σ' H' ⟨l', as, y, rfl, e1, hl', hl1, t1⟩
      refine s_ret (ev_var rfl) fun H2 e2 => q l' as H2 hl' (e1.trans e2) (e2 _ _ hl1) ?_
      rw [List.take_length] at t1
      exact t1.mono e2
end
end KP
set_option Elab.async false
set_option linter.all false
set_option maxRecDepth 100000
set_option maxHeartbeats 400000
namespace KP
open PySem PySem.Spec PyProof.Rows L2 Evl
section
variable {K : PySem.W.Frag} {mg : Str → Option Value} {P : Program} {w : World} {base : Heap} {CT CA : Addr}
/-- pairs of a number and a tuple of numbers -/
def CasesAt (K : PySem.W.Frag) (H : Hp) (as : List Addr) (cs : List (Nat × List Nat)) : Prop := P2 (fun a c => ∃ b, SqT K H a [.int (c.1 : Nat), .ref b] ∧ SqT K H b (bytesV c.2)) as cs
theorem CasesAt.mono {H H' : Hp} {as : List Addr} {cs : List (Nat × List Nat)} (e : Ex H H') (h : CasesAt K H as cs) : CasesAt K H' as cs := P2.mono (fun _ _ ⟨b, h1, h2⟩ => ⟨b, ex_t e h1, ex_t e h2⟩) h
theorem CasesAt.upd {H : Hp} {l : Addr} {ys zs : List V} {as : List Addr} {cs : List (Nat × List Nat)} (hl : H l = some (.lst ys)) (h : CasesAt K H as cs) : CasesAt K (upd H l (.lst zs)) as cs := P2.mono (fun _ _ ⟨b, h1, h2⟩ => ⟨b, sqT_upd hl h1, sqT_upd hl h2⟩) h
def casesOf (x : Pn16.Text) (KS : List (List Nat)) : List (Nat × List Nat) := (List.range KS.length).flatMap fun i => (Pn16.rows x (KS.getD i [])).map fun l => (i, l)
theorem casesOf_snoc (x : Pn16.Text) (KS : List (List Nat)) (ks : List Nat) : casesOf x (KS ++ [ks]) = casesOf x KS ++ (Pn16.rows x ks).map fun l => (KS.length, l) := by
  unfold casesOf
  rw [List.length_append, List.length_cons, List.length_nil, List.range_succ, List.flatMap_append]
  congr 1
  · rw [List.flatMap_def, List.flatMap_def]
    congr 1
    refine List.map_congr_left fun i hi => ?_
    rw [getD_more (List.mem_range.mp hi)]
  · have e : (KS ++ [ks]).getD KS.length [] = ks := by
      rw [List.getD_eq_getElem?_getD, List.getElem?_append_right (Nat.le_refl _)]
      simp
    rw [List.flatMap_cons, e]
    simp
theorem facts_is (x : Pn16.Text) : casesOf x (x.facts.map fun f => f.2) = Pn16.facts x := by
  unfold casesOf Pn16.facts
  rw [List.length_map, List.flatMap_def, List.flatMap_def]
  congr 1
  refine List.map_congr_left fun i hi => ?_
  have e : (x.facts.map fun f => f.2).getD i [] = Pn16.kindsOf x i := by
    unfold Pn16.kindsOf
    rw [List.getD_eq_getElem?_getD, List.getElem?_map]
  rw [e]
theorem acts_is (x : Pn16.Text) : casesOf x (x.acts.map fun s => s.places.map fun p => p.2) = Pn16.acts x := by
  unfold casesOf Pn16.acts
  rw [List.length_map, List.flatMap_def, List.flatMap_def]
  congr 1
  refine List.map_congr_left fun i hi => ?_
  have hi' := List.mem_range.mp hi
  have e : (x.acts.map fun s => s.places.map fun p => p.2).getD i [] = (x.acts.getD i Pn16.none_).places.map fun p => p.2 := by
    rw [List.getD_eq_getElem?_getD, List.getElem?_map, List.getD_eq_getElem?_getD, List.getElem?_eq_getElem hi'] <;> rfl
  rw [e]
theorem casesOf_len {x : Pn16.Text} (hx : TextOk x) : ∀ KS : List (List Nat), (∀ ks ∈ KS, ks.length ≤ 2) → (casesOf x KS).length ≤ 36 * KS.length := by
  intro KS h
  suffices ∀ n, n ≤ KS.length → (casesOf x (KS.take n)).length ≤ 36 * n by
    have := this KS.length (Nat.le_refl _)
    rw [List.take_length] at this
    exact this
  intro n
  induction n with
  | zero => intro _; simp [casesOf]
  | succ n ih =>
    intro hn
    have hk : KS[n]? = some KS[n] := List.getElem?_eq_getElem (by omega)
    rw [take_succ hk, casesOf_snoc, List.length_append, List.length_map]
    have h1 := ih (by omega)
    have h2 := (rows_len hx KS[n]).1
    have h3 := h _ (List.getElem_mem (by omega : n < KS.length))
    have h4 : (6 : Nat) ^ KS[n].length ≤ 36 := by
      calc (6 : Nat) ^ KS[n].length ≤ 6 ^ 2 := Nat.pow_le_pow_right (by decide) h3
        _ = 36 := rfl
    omega
/-! ### all_cases -/
abbrev s_all_cases : Stmt := top 3
theorem sc_all_cases : FnScope ["text", "kinds_of_each", "cases", "number", "kinds", "row"] ["text", "kinds_of_each"] (defScope s_all_cases) := ⟨rfl, rfl, rfl, by decide +kernel, rfl, by decide +kernel, by decide +kernel⟩
def sp_all_cases (K : PySem.W.Frag) (CT CA : Addr) : Sp := fun vs H Q _ => ∃ (A : TextA) (x : Pn16.Text) (b : Addr) (ls : List Addr) (KS : List (List Nat)), vs = [.ref A.a, .ref b] ∧ TextAt CT CA H A x ∧ TextOk x ∧ SqL K H b (ls.map V.ref) ∧ P2 (fun a (ks : List Nat) => SqL K H a (txts (ks.map (kindName x)))) ls KS ∧ KS.length ≤ 4 ∧
  (∀ ks ∈ KS, ks.length ≤ 2 ∧ ∀ k ∈ ks, k < x.kinds.length) ∧ ∀ l as H2, H l = none → Ex H H2 → H2 l = some (.lst (as.map V.ref)) → CasesAt K H2 as (casesOf x KS) → Q (.ref l) H2
theorem has_all_cases {f : Addr} {fd : FuncData} (F : Fun K "all_cases" "all_cases" s_all_cases f fd) (O : Own mg) (g : mg "all_cases" = some (.ref f)) (h_rows_of : Has P w K mg base 2 "rows_of" ["text", "kinds"] (sp_rows_of K CT CA)) : Has P w K mg base 3 "all_cases" ["text", "kinds_of_each"] (sp_all_cases K CT CA) := by
  refine ⟨f, fd, F.ok sc_all_cases (fun vs H Q E h => ?_) (fun cdv A outer s H vs Q E hr h => ?_), g, F.kp, F.binds fun _ _ _ _ _ _ us hl => match us, hl with | [_, _], _ => rfl⟩
  · obtain ⟨_, _, _, _, _, rfl, _⟩ := h
    rfl
  · obtain ⟨A, x, b, ls, KS, rfl, T, hx, hb, hls, zK, hK, q⟩ := h
    refine ⟨_, (pss_cons (ps_set (i := 2) sc_all_cases.nd rfl (Or.inl rfl) (pe_lst pa_nil))
      (pss_cons (ps_for PassesOwn.never rfl (pi_enum (by rfl) O.enum (pa_cons (pv 1) pa_nil)) (pg_tup rfl (pgs_cons (pg_name (i := 3) sc_all_cases.nd rfl (Or.inl rfl)) (pgs_cons (pg_name (i := 4) sc_all_cases.nd rfl (Or.inl rfl)) pgs_nil))) (pss_one (ps_for PassesOwn.never rfl (pi_list (pe_own h_rows_of (hr.mono (by decide)) rfl (pa_cons (pv 0) (pa_cons (pv 4) pa_nil)))) (pg_name (i := 5) sc_all_cases.nd rfl (Or.inl rfl)) (pss_one (ps_expr (pe_bm PySem.F.plainAttrs_list PySem.F.slot_list_append PySem.F.type_list_append mt_append (pv 2) (pa_cons (pe_tup (pa_cons (pv 3) (pa_cons (pv 5) pa_nil))) pa_nil)))))))
      (pss_one (ps_ret (pv 2))))), ?_⟩
    refine ⟨Nat.zero_le _, fun l hl => ?_⟩
    have hgo := goes_enum (K := K) (F := H) (σ := (start ["text", "kinds_of_each", "cases", "number", "kinds", "row"] [.ref A.a, .ref b]).set 2 (some (.ref l))) (ta := tVar 1) (ev_var rfl) hb
    rw [List.length_map] at hgo
    have hll := hls.length
    have big : ∀ i, (casesOf x (KS.take i)).length ≤ 144 := fun i => by
      have h1 := casesOf_len hx (KS.take i) fun ks hk => (hK ks (List.mem_of_mem_take hk)).1
      have h2 : (KS.take i).length ≤ 4 := by rw [List.length_take]; omega
      omega
    refine q_for hgo (Ex.new hl) (fun i σ H' => ∃ (as : List Addr) (y3 y4 y5 : Option V), σ = [some (.ref A.a), some (.ref b), some (.ref l), y3, y4, y5] ∧ Ex H H' ∧ H' l = some (.lst (as.map V.ref)) ∧ CasesAt K H' as (casesOf x (KS.take i))) ?_ ?_ ?_ ?_
    · intro H1 e1
      exact ⟨[], none, none, none, rfl, (Ex.new hl).trans e1, e1 _ _ upd_same, .nil⟩
    · rintro i σ' H' _ ⟨_, _, _, _, _, e1, _⟩
      exact e1
    · rintro i v σ' H1 H' hi ⟨as, y3, y4, y5, rfl, e1, hl1, t1⟩ ⟨N, u, o, rfl, hN, rfl, hu, ho⟩
      have hu' : V.int (i : Nat) = u := Option.some.inj hu
      subst hu'
      have ha : ls[i]? = some ls[i] := List.getElem?_eq_getElem hi
      obtain ⟨ks, hk1, hk2⟩ := P2.geta hls ha
      have ho' : (ls.map V.ref)[i]? = some o := ho
      rw [List.getElem?_map, ha] at ho'
      have eo : V.ref ls[i] = o := Option.some.inj ho'
      subst eo
      refine g_pair (K := K) upd_same ?_
      have eN : Ex H1 (upd H1 N (.tup [.int (i : Nat), .ref ls[i]])) := Ex.new hN
      obtain ⟨k2, k3⟩ := hK ks (List.mem_of_getElem? hk1)
      have htk : KS.take (i + 1) = KS.take i ++ [ks] := take_succ hk1
      have hti : (KS.take i).length = i := by rw [List.length_take]; omega
      have e1' := e1.trans eN
      have hrl := rows_len hx ks
      have h36 : (Pn16.rows x ks).length ≤ 36 := by
        have h4 : (6 : Nat) ^ ks.length ≤ 36 := by
          calc (6 : Nat) ^ ks.length ≤ 6 ^ 2 := Nat.pow_le_pow_right (by decide) k2
            _ = 36 := rfl
        omega
      -- for row in rows_of(text, kinds)
      refine ⟨_, rfl, _, rfl, A, x, ls[i], ks, rfl, T.mono e1', hx, ex_l e1' hk2, k2, k3, fun l2 as2 H2 hl2 e2 h2 t2 => ⟨l2, rfl, ⟨_, sq_of h2⟩, ?_⟩⟩
      have hl0 : (upd H1 N (.tup [.int (i : Nat), .ref ls[i]])) l = some (.lst (as.map V.ref)) := eN _ _ hl1
      have hne : l2 ≠ l := fun e => by
        rw [e, hl0] at hl2
        cases hl2
      have hl2H : H l2 = none := fresh_back e1' hl2
      have z2 := t2.length
      have w2 := walk_list (K := K) (a := l2) (xs := as2.map V.ref)
      rw [List.length_map] at w2
      refine for_it w2 (fun j σ H' => ∃ (as3 : List Addr) (y5 : Option V), σ = [some (.ref A.a), some (.ref b), some (.ref l), some (.int (i : Nat)), some (.ref ls[i]), y5] ∧ Ex H H' ∧ H' l2 = some (.lst (as2.map V.ref)) ∧ TupsAt K H' as2 (Pn16.rows x ks) ∧ H' l = some (.lst (as3.map V.ref)) ∧ CasesAt K H' as3 (casesOf x (KS.take i) ++ ((Pn16.rows x ks).take j).map fun r => (i, r))) ?_ ?_ ?_ ?_
      · refine ⟨as, y5, rfl, e1'.trans e2, h2, t2, e2 _ _ hl0, ?_⟩
        have t1' := t1.mono (eN.trans e2)
        simpa using t1'
      · rintro j σ' H' _ ⟨_, _, _, _, h, _⟩
        exact sq_of h
      · rintro j v σ' H3 H4 hj ⟨as3, y5', rfl, e3, h3, t3, hl3, c3⟩ ⟨rfl, hv⟩
        have ha2 : as2[j]? = some as2[j] := List.getElem?_eq_getElem hj
        obtain ⟨r, hr1, hr2⟩ := P2.geta t3 ha2
        rw [List.getElem?_map, ha2] at hv
        have ev := Option.some.inj hv
        subst ev
        have z3 := c3.length
        rw [List.length_append, List.length_map] at z3
        have hb1 := big i
        have hb2 : ((Pn16.rows x ks).take j).length ≤ 36 := by rw [List.length_take]; omega
        refine ⟨_, rfl, .inl ⟨rfl, _, sq_of hl3⟩, _, rfl, _, rfl, Nat.le_of_lt (by show 2 < sizeLine; decide), fun d hd => ?_⟩
        have hld : l ≠ d := ne_of_none hl3 hd
        have e4 : Ex H4 (upd H4 d (.tup [.int (i : Nat), .ref as2[j]])) := Ex.new hd
        have hl4 := e4 _ _ hl3
        refine ⟨l, _, _, rfl, rfl, hl4, sz_lt (by rw [List.length_map]; omega), as3 ++ [d], _, rfl, Ex.mut (e3.trans e4) hl, ?_, TupsAt.upd hl4 (t3.mono e4), ?_, ?_⟩
        · rw [upd_ne hne]
          exact e4 _ _ h3
        · rw [upd_same, List.map_append] <;> rfl
        · refine CasesAt.upd hl4 ?_
          rw [take_succ hr1, List.map_append, ← List.append_assoc]
          exact P2.snoc (R := fun a (c : Nat × List Nat) => ∃ b, SqT K (upd H4 d (.tup [.int (i : Nat), .ref as2[j]])) a [.int (c.1 : Nat), .ref b] ∧ SqT K (upd H4 d (.tup [.int (i : Nat), .ref as2[j]])) b (bytesV c.2)) ⟨as2[j], st_of upd_same, ex_t e4 hr2⟩ (c3.mono e4)
      · rintro σ' H' ⟨as3, y5', rfl, e3, h3, t3, hl3, c3⟩
        refine ⟨as3, _, _, y5', rfl, e3, hl3, ?_⟩
        rw [htk, casesOf_snoc, hti]
        rw [z2, List.take_length] at c3
        exact c3
    · rintro σ' H' ⟨as, y3, y4, y5, rfl, e1, hl1, t1⟩
      refine s_ret (ev_var rfl) fun H2 e2 => q l as H2 hl (e1.trans e2) (e2 _ _ hl1) ?_
      rw [hll, List.take_length] at t1
      exact t1.mono e2
/-! ### all_facts, all_acts -/
abbrev s_all_facts : Stmt := top 1
theorem sc_all_facts : FnScope ["text"] ["text"] (defScope s_all_facts) := ⟨rfl, rfl, rfl, by decide +kernel, rfl, by decide +kernel, by decide +kernel⟩
def sp_all_facts (K : PySem.W.Frag) (CT CA : Addr) : Sp := fun vs H Q _ => ∃ (A : TextA) (x : Pn16.Text), vs = [.ref A.a] ∧ TextAt CT CA H A x ∧ TextOk x ∧ ∀ l as H2, H l = none → Ex H H2 → H2 l = some (.lst (as.map V.ref)) → CasesAt K H2 as (Pn16.facts x) → Q (.ref l) H2
theorem has_all_facts {f : Addr} {fd : FuncData} (F : Fun K "all_facts" "all_facts" s_all_facts f fd) (O : Own mg) (C : Clss K CT CA) (g : mg "all_facts" = some (.ref f)) (h_all_cases : Has P w K mg base 3 "all_cases" ["text", "kinds_of_each"] (sp_all_cases K CT CA)) : Has P w K mg base 4 "all_facts" ["text"] (sp_all_facts K CT CA) := by
  refine ⟨f, fd, F.ok sc_all_facts (fun vs H Q E h => ?_) (fun cdv A outer s H vs Q E hr h => ?_), g, F.kp, F.binds fun _ _ _ _ _ _ us hl => match us, hl with | [_], _ => rfl⟩
  · obtain ⟨_, _, rfl, _⟩ := h
    rfl
  · obtain ⟨A, x, rfl, T, hx, q⟩ := h
    refine ⟨_, (pss_one (ps_ret (pe_own h_all_cases (hr.mono (by decide)) rfl (pa_cons (pv 0) (pa_cons (pe_fld (pv 0) (by rfl)) pa_nil))))), ?_⟩
    refine ⟨_, rfl, ?_⟩
    refine ev_factKinds T C (ev_var rfl) H (Ex.refl H) _ fun H1 e1 => ?_
    have hfk := hx.facts
    refine ⟨A, x, A.fk, A.fks, x.facts.map fun f => f.2, rfl, T.mono e1, hx, sq_of (e1 _ _ T.factKinds), ?_, by rw [List.length_map]; exact hfk.1, fun ks hk => ?_, fun l as H2 hl e2 h2 c2 => ?_⟩
    · have : ∀ {as : List Addr} {bs : List (Pn16.Bytes × List Nat)}, P2 (fun a (f : Pn16.Bytes × List Nat) => H a = some (.lst (txts (f.2.map (kindName x))))) as bs → P2 (fun a (ks : List Nat) => SqL K H1 a (txts (ks.map (kindName x)))) as (bs.map fun f => f.2) := fun h => by
        induction h with
        | nil => exact .nil
        | cons r t ih => exact .cons (sq_of (e1 _ _ r)) ih
      exact this T.fks
    · obtain ⟨f, hf, rfl⟩ := List.mem_map.mp hk
      exact ⟨(hfk.2.2 f hf).2.1, (hfk.2.2 f hf).2.2⟩
    · rw [facts_is] at c2
      exact q l as H2 (fresh_back e1 hl) (e1.trans e2) h2 c2
abbrev s_all_acts : Stmt := top 2
theorem sc_all_acts : FnScope ["text", "act"] ["text"] (defScope s_all_acts) := ⟨rfl, rfl, rfl, by decide +kernel, rfl, by decide +kernel, by decide +kernel⟩
def sp_all_acts (K : PySem.W.Frag) (CT CA : Addr) : Sp := fun vs H Q _ => ∃ (A : TextA) (x : Pn16.Text), vs = [.ref A.a] ∧ TextAt CT CA H A x ∧ TextOk x ∧ ∀ l as H2, H l = none → Ex H H2 → H2 l = some (.lst (as.map V.ref)) → CasesAt K H2 as (Pn16.acts x) → Q (.ref l) H2
theorem has_all_acts {f : Addr} {fd : FuncData} (F : Fun K "all_acts" "all_acts" s_all_acts f fd) (O : Own mg) (C : Clss K CT CA) (g : mg "all_acts" = some (.ref f)) (h_all_cases : Has P w K mg base 3 "all_cases" ["text", "kinds_of_each"] (sp_all_cases K CT CA)) : Has P w K mg base 4 "all_acts" ["text"] (sp_all_acts K CT CA) := by
  refine ⟨f, fd, F.ok sc_all_acts (fun vs H Q E h => ?_) (fun cdv A outer s H vs Q E hr h => ?_), g, F.kp, F.binds fun _ _ _ _ _ _ us hl => match us, hl with | [_], _ => rfl⟩
  · obtain ⟨_, _, rfl, _⟩ := h
    rfl
  · obtain ⟨A, x, rfl, T, hx, q⟩ := h
    refine ⟨_, (pss_one (ps_ret (pe_own h_all_cases (hr.mono (by decide)) rfl (pa_cons (pv 0) (pa_cons (pe_lc (own := [("act", 1)]) (g := gName 1) (tt := tYes) (te := tFld K (tVar 1) "kinds") rfl sc_all_acts.nd (pi_list (pe_fld (pv 0) (by rfl))) (blkOk_by (N := ["text", "act"]) (sc := defScope s_all_acts) (by decide +kernel)) (fun _ _ _ _ _ => (pg_name (i := 1) sc_all_acts.nd rfl (Or.inl rfl))) (fun _ _ _ _ _ => pts_nil) (fun _ _ _ _ _ => (pe_fld (pv 1) (by rfl)))) pa_nil))))), ?_⟩
    refine ⟨_, rfl, ?_⟩
    have hgo := goes_acts (K := K) T C (σ := start ["text", "act"] [.ref A.a]) (ta := tVar 0) (ev_var rfl)
    have hl := T.as.length
    have h4 := hx.acts.1
    have hE : EvL (tLc (iList K (tFld K (tVar 0) "acts")) (gName 1) tYes (tFld K (tVar 1) "kinds") [1]) (start ["text", "act"] [.ref A.a]) H (A.as.map fun B => V.ref B.q) :=
      el_map (⟨0, 0, 0, 0, 0, 0, 0, 0, 0, [], [], [], []⟩ : ActA) (c := fun q : ActA => V.ref q.b) hgo.new (by omega) (fun _ => rfl) fun B hB => by
        obtain ⟨s, _, TB⟩ := act_pick T hB
        exact ev_akinds TB C (ev_var rfl)
    refine hE H (Ex.refl H) _ fun p H1 hp e1 h1 => ?_
    refine ⟨A, x, p, A.as.map fun B => B.q, x.acts.map fun s => s.places.map fun p => p.2, rfl, T.mono e1, hx, sq_of (by rw [h1, List.map_map]; rfl), ?_, by rw [List.length_map]; exact h4, fun ks hk => ?_, fun l as H2 hl e2 h2 c2 => ?_⟩
    · have : ∀ {as : List ActA} {bs : List Pn16.Schema}, P2 (ActAt CA H x) as bs → P2 (fun a (ks : List Nat) => SqL K H1 a (txts (ks.map (kindName x)))) (as.map fun B => B.q) (bs.map fun s => s.places.map fun p => p.2) := fun h => by
        induction h with
        | nil => exact .nil
        | cons r t ih =>
          refine .cons (sq_of ?_) ih
          have := e1 _ _ r.kinds
          rw [List.map_map]
          exact this
      exact this T.as
    · obtain ⟨s, hs, rfl⟩ := List.mem_map.mp hk
      have := hx.acts.2.2 s hs
      refine ⟨by rw [List.length_map]; exact this.few, fun k hk => ?_⟩
      obtain ⟨p, hp, rfl⟩ := List.mem_map.mp hk
      exact (this.places p hp).2
    · rw [acts_is] at c2
      exact q l as H2 (fresh_back e1 hl) (e1.trans e2) h2 c2
end
end KP
set_option Elab.async false
set_option linter.all false
set_option maxRecDepth 100000
set_option maxHeartbeats 400000
namespace KP
open PySem PySem.Spec PyProof.Rows L2 Evl
/-! ### cases as data -/
def natsD (l : List Nat) : List PyData := l.map fun n : Nat => PyData.int (n : Int)
def caseD (c : Nat × List Nat) : PyData := .tuple [.int (c.1 : Nat), .tuple (natsD c.2)]
theorem lay_nats : ∀ l : List Nat, PyData.canLayAll0 (natsD l) = true
  | [] => by simp [natsD, PyData.canLayAll0]
  | n :: l => by
    have ih := lay_nats l
    unfold natsD at ih ⊢
    simp [PyData.canLayAll0, PyData.canLay0, ih]
theorem depth_nats : ∀ l : List Nat, PyData.depthAll (natsD l) = 0
  | [] => by simp [natsD, PyData.depthAll]
  | n :: l => by
    have ih := depth_nats l
    unfold natsD at ih ⊢
    simp [PyData.depthAll, PyData.depth, ih]
theorem lay_case (c : Nat × List Nat) : PyData.canLay0 (caseD c) = true := by
  simp only [caseD, PyData.canLay0, PyData.canLayAll0, lay_nats]
  rfl
theorem depth_case (c : Nat × List Nat) : PyData.depth (caseD c) ≤ 2 := by
  simp only [caseD, PyData.depth, PyData.depthAll, depth_nats]
  omega
theorem lay_cases : ∀ l : List (Nat × List Nat), PyData.canLayAll0 (l.map caseD) = true
  | [] => by simp [PyData.canLayAll0]
  | c :: l => by simp [PyData.canLayAll0, lay_case c, lay_cases l]
theorem depth_cases : ∀ l : List (Nat × List Nat), PyData.depthAll (l.map caseD) ≤ 2
  | [] => by simp [PyData.depthAll]
  | c :: l => by
    have h1 := depth_case c
    have h2 := depth_cases l
    simp only [List.map_cons, PyData.depthAll]
    omega
theorem shaped_case (c : Nat × List Nat) : SeqAt.shaped (caseD c) = true := by
  show (PyData.canLay0 (caseD c) && decide (PyData.depth (caseD c) ≤ 64)) = true
  have h := depth_case c
  rw [Bool.and_eq_true]
  exact ⟨lay_case c, decide_eq_true (by omega)⟩
theorem shaped_cases (l : List (Nat × List Nat)) : SeqAt.shaped (.list (l.map caseD)) = true := by
  show (PyData.canLay0 (.list (l.map caseD)) && decide (PyData.depth (.list (l.map caseD)) ≤ 64)) = true
  have h := depth_cases l
  have h2 : PyData.depth (.list (l.map caseD)) ≤ 64 := by
    simp only [PyData.depth]
    omega
  rw [Bool.and_eq_true]
  exact ⟨by simp only [PyData.canLay0]; exact lay_cases l, decide_eq_true h2⟩
theorem eqv_nats : ∀ a b : List Nat, PyData.eqvAll (natsD a) (natsD b) = decide (a = b)
  | [], [] => by simp [natsD, PyData.eqvAll]
  | [], _ :: _ => by simp [natsD, PyData.eqvAll]
  | _ :: _, [] => by simp [natsD, PyData.eqvAll]
  | x :: a, y :: b => by
    have ih := eqv_nats a b
    show (((x : Int) == (y : Int)) && PyData.eqvAll (natsD a) (natsD b)) = _
    rw [ih]
    by_cases h1 : x = y
    · subst h1
      by_cases h2 : a = b
      · subst h2
        simp
      · rw [decide_eq_false h2, decide_eq_false fun e => h2 (List.cons.inj e).2, Bool.and_false]
    · have e1 : ((x : Int) == (y : Int)) = false := beq_eq_false_iff_ne.mpr (by omega)
      rw [e1, decide_eq_false fun e => h1 (List.cons.inj e).1, Bool.false_and]
theorem eqv_case (a b : Nat × List Nat) : PyData.eqv (caseD a) (caseD b) = decide (a = b) := by
  obtain ⟨p, r⟩ := a
  obtain ⟨q, s⟩ := b
  have e : PyData.eqv (caseD (p, r)) (caseD (q, s)) = (((p : Int) == (q : Int)) && (PyData.eqvAll (natsD r) (natsD s) && true)) := by simp only [caseD, PyData.eqv, PyData.eqvAll]
  rw [e, eqv_nats, Bool.and_true]
  by_cases h1 : p = q
  · subst h1
    by_cases h2 : r = s
    · subst h2
      simp
    · rw [decide_eq_false h2, decide_eq_false fun z => h2 (Prod.mk.inj z).2, Bool.and_false]
  · have e1 : ((p : Int) == (q : Int)) = false := beq_eq_false_iff_ne.mpr (by omega)
    rw [e1, decide_eq_false fun z => h1 (Prod.mk.inj z).1, Bool.false_and]
section
variable {K : PySem.W.Frag} {mg : Str → Option Value} {P : Program} {w : World} {base : Heap} {CT CA : Addr}
theorem dpAll_nats {H : Hp} : ∀ l : List Nat, DpAll K H (bytesV l) (natsD l)
  | [] => .nil
  | n :: l => .cons (.int _) (dpAll_nats l)
theorem dp_case {H : Hp} {a b : Addr} {c : Nat × List Nat} (h1 : SqT K H a [.int (c.1 : Nat), .ref b]) (h2 : SqT K H b (bytesV c.2)) : Dp K H (.ref a) (caseD c) := .tup h1 (.cons (.int _) (.cons (.tup h2 (dpAll_nats _)) .nil))
theorem dp_cases {H : Hp} {l : Addr} {as : List Addr} {cs : List (Nat × List Nat)} (hl : SqL K H l (as.map V.ref)) (h : CasesAt K H as cs) : Dp K H (.ref l) (.list (cs.map caseD)) := by
  refine .lst hl ?_
  clear hl
  unfold CasesAt at h
  induction h with
  | nil => exact .nil
  | cons r t ih =>
    obtain ⟨b, h1, h2⟩ := r
    exact .cons (dp_case h1 h2) ih
/-! ### case_of -/
abbrev s_case_of : Stmt := top 9
theorem sc_case_of : FnScope ["text", "claim", "things", "name"] ["text", "claim"] (defScope s_case_of) := ⟨rfl, rfl, rfl, by decide +kernel, rfl, by decide +kernel, by decide +kernel⟩
def sp_case_of (K : PySem.W.Frag) (CT CA : Addr) : Sp := fun vs H Q _ => ∃ (A : TextA) (x : Pn16.Text) (c : Addr) (f : Nat × List Nat), vs = [.ref A.a, .ref c] ∧ TextAt CT CA H A x ∧ TextOk x ∧ SqT K H c (txts (saidWords x f)) ∧ SaidOk x f ∧ f.2.length ≤ 2 ∧
  ∀ a b H2, Ex H H2 → H2 a = some (.tup [.int (f.1 : Nat), .ref b]) → H2 b = some (.tup (bytesV f.2)) → Q (.ref a) H2
theorem name_mem {α : Type} {l : List (Pn16.Bytes × α)} {i : Nat} (h : i < l.length) : (Pn16.names l).getD i [] ∈ Pn16.names l ∧ (Pn16.names l)[i]? = some ((Pn16.names l).getD i []) := by
  have h' : i < (Pn16.names l).length := by rw [names_len]; exact h
  rw [List.getD_eq_getElem?_getD, List.getElem?_eq_getElem h']
  exact ⟨List.getElem_mem h', rfl⟩
theorem idx_name {l : List (List Nat)} (nd : l.Nodup) {i : Nat} (h : i < l.length) : l.idxOf (l.getD i []) = i := by
  rw [List.getD_eq_getElem?_getD, List.getElem?_eq_getElem h]
  exact idxOf_getElem nd h
theorem goes_newT {σ : L2.St} {F : Hp} {tl : TE} {xs : List V} (h : EvU tl σ F xs) : GoesN (iTup K tl) σ F xs.length (YAt xs) := fun H1 e R q =>
  h H1 e _ fun a H2 ha e2 h2 => ⟨a, rfl, ⟨xs, st_of h2⟩, q _ H2 (glue F H1 H2) e2 glue_F (glue_sub (e.trans e2)) (fun b hb hF => by
    cases hH : H1 b with
    | none => exact absurd hH hb
    | some o => exact glue_old hF hH) (walk_tup.mono (fun H g => st_of (g a _ (by rw [glue_new e ha]; exact h2))) (fun _ _ _ _ _ _ y => y))⟩
theorem has_case_of {f : Addr} {fd : FuncData} (F : Fun K "case_of" "case_of" s_case_of f fd) (O : Own mg) (C : Clss K CT CA) (g : mg "case_of" = some (.ref f)) : Has P w K mg base 1 "case_of" ["text", "claim"] (sp_case_of K CT CA) := by
  refine ⟨f, fd, F.ok sc_case_of (fun vs H Q E h => ?_) (fun cdv A outer s H vs Q E hr h => ?_), g, F.kp, F.binds fun _ _ _ _ _ _ us hl => match us, hl with | [_, _], _ => rfl⟩
  · obtain ⟨_, _, _, _, rfl, _⟩ := h
    rfl
  · obtain ⟨A, x, c, m, rfl, T, hx, hc, hm, z2, q⟩ := h
    refine ⟨_, (pss_cons (ps_setLc (i := 2) (own := [("name", 3)]) (g := gName 3) (tt := tYes) (te := tBM K "list" (rIndex K) (tFld K (tVar 0) "things") (tCons (tVar 3) tNil)) rfl sc_case_of.nd rfl rfl (sw_true rfl rfl rfl (by decide +kernel)) (pi_tup (pe_slice sl_tupA (pv 1) (po_some pe_int) po_none)) (blkOk_by (N := ["text", "claim", "things", "name"]) (sc := defScope s_case_of) (by decide +kernel)) (fun _ _ _ _ _ => (pg_name (i := 3) sc_case_of.nd rfl (Or.inl rfl))) (fun _ _ _ _ _ => pts_nil) (fun _ _ _ _ _ => (pe_bm PySem.F.plainAttrs_list PySem.F.slot_list_index PySem.F.type_list_index mt_index (pe_fld (pv 0) (by rfl)) (pa_cons (pv 3) pa_nil))))
      (pss_one (ps_ret (pe_tup (pa_cons (pe_bm PySem.F.plainAttrs_list PySem.F.slot_list_index PySem.F.type_list_index mt_index (pe_fld (pv 0) (by rfl)) (pa_cons (pe_ix ix_tup (pv 1) pe_int (fun _ _ => rfl)) pa_nil)) (pa_cons (pe_callTy call_tuple_of (by rfl) O.tuple (by decide +kernel) (pa_cons (pv 2) pa_nil)) pa_nil)))))), ?_⟩
    have hsrc : EvU (tSl (rSlA K) (tVar 1) (tPart (tC (.int 1))) tNoPart) (start ["text", "claim", "things", "name"] [.ref A.a, .ref c]) H (txts (m.2.map (Pn16.thingName x))) := fun H1 e1 Q1 q1 => by
      refine ⟨_, rfl, 1, rfl, c, _, rfl, ex_t e1 hc, fun hw => ?_, fun _ l hl => ?_⟩
      · have h0 : HT.sIx (txts (saidWords x m)).length 0 (some 1) = min 1 (txts (saidWords x m)).length := HT.sIx_nat _ 0 1
        rw [h0] at hw
        have h1 : (txts (saidWords x m)).length = m.2.length + 1 := by
          rw [List.length_map]
          unfold saidWords
          rw [List.length_cons, List.length_map]
        have := hw.1
        omega
      · refine q1 l _ hl (Ex.new hl) ?_
        rw [upd_same]
        have := cutN 1 (txts (saidWords x m))
        rw [show ((1 : Nat) : Int) = 1 from rfl] at this
        rw [this] <;> rfl
    have hgo := goes_newT (K := K) hsrc
    rw [List.length_map, List.length_map] at hgo
    have ndT := hx.things.2.1
    refine q_asgL (xs := bytesV m.2) ?_ fun l H1 hl e1 h1 => ?_
    · refine el_map 0 (xs := m.2) (c := fun i => V.str (S (Pn16.thingName x i))) ?_ (by omega) (fun _ => rfl) fun i hi => ?_
      · rw [show txts (m.2.map (Pn16.thingName x)) = m.2.map (fun i => V.str (S (Pn16.thingName x i))) from List.map_map] at hgo
        exact hgo
      · have hlt := hm.args i hi
        have hin := (name_mem hlt).1
        refine ev_is (ev_index (K := K) (w := Pn16.thingName x i) (ev_things T C (ev_var rfl)) (ev_var rfl) (sq_of T.things) hin) ?_
        have : (Pn16.names x.things).idxOf (Pn16.thingName x i) = i := idx_name ndT (by rw [names_len]; exact hlt)
        rw [this]
    · have T1 := T.mono e1
      have hfin := (name_mem hm.fact).1
      have hidx : (Pn16.names x.facts).idxOf (Pn16.factName x m.1) = m.1 := idx_name hx.facts.2.1 (by rw [names_len]; exact hm.fact)
      refine ev_index (K := K) (w := Pn16.factName x m.1) (ev_facts T1 C (ev_var rfl)) (ev_op (ev_var rfl) ev_c (rv_ixT (K := K) (ex_t e1 hc) (atI_nat (j := 0) rfl))) (sq_of T1.facts) hfin H1 (Ex.refl H1) _ fun H2 e2 => ?_
      rw [hidx]
      refine ⟨_, rfl, l, _, rfl, .inl ⟨sq_of (e2 _ _ h1), fun b hb => ⟨Nat.le_of_lt (by show 2 < sizeLine; decide), fun a ha => ?_⟩⟩⟩
      have eb : Ex H2 (upd H2 b (.tup (bytesV m.2))) := Ex.new hb
      have ea : Ex (upd H2 b (.tup (bytesV m.2))) (upd (upd H2 b (.tup (bytesV m.2))) a (.tup [.int (m.1 : Nat), .ref b])) := Ex.new ha
      exact q a b _ (((e1.trans e2).trans eb).trans ea) upd_same (ea _ _ upd_same)
/-! ### fact_set -/
theorem hu65_of {A : Around} {k : Nat} (hr : Room k A) : A.units + 65 < cLine := by
  have := hr.un
  omega
abbrev s_fact_set : Stmt := top 8
theorem sc_fact_set : FnScope ["text", "facts", "claims", "bits", "claim"] ["text", "facts", "claims"] (defScope s_fact_set) := ⟨rfl, rfl, rfl, by decide +kernel, rfl, by decide +kernel, by decide +kernel⟩
def sp_fact_set (K : PySem.W.Frag) (CT CA : Addr) : Sp := fun vs H Q _ => ∃ (A : TextA) (x : Pn16.Text) (fl cl : Addr) (as cs : List Addr) (fs : List (Nat × List Nat)), vs = [.ref A.a, .ref fl, .ref cl] ∧ TextAt CT CA H A x ∧ TextOk x ∧ SqL K H fl (as.map V.ref) ∧ CasesAt K H as (Pn16.facts x) ∧ SqL K H cl (cs.map V.ref) ∧ P2 (fun a f => SqT K H a (txts (saidWords x f))) cs fs ∧
  (∀ f ∈ fs, SaidOk x f) ∧ (Pn16.facts x).length ≤ 1000 ∧ ∀ H2, Ex H H2 → Q (.int (Pn16.setOf x fs : Nat)) H2
theorem said_two {x : Pn16.Text} (hx : TextOk x) {f : Nat × List Nat} (h : SaidOk x f) : f.2.length ≤ 2 := by
  have e := congrArg List.length h.kinds
  rw [List.length_map] at e
  rw [e]
  unfold Pn16.kindsOf
  rw [List.getElem?_eq_getElem h.fact]
  exact (hx.facts.2.2 _ (List.getElem_mem h.fact)).2.1
theorem said_mem {x : Pn16.Text} {f : Nat × List Nat} (h : SaidOk x f) : f ∈ Pn16.facts x := by
  obtain ⟨p, l⟩ := f
  refine mem_facts.mpr ⟨h.fact, mem_rows.mpr ⟨?_, h.args, h.kinds⟩⟩
  have e := congrArg List.length h.kinds
  rw [List.length_map] at e
  exact e
theorem bits_snoc {α : Type} [BEq α] (fs cs : List α) (c : α) : bitsOf fs (cs ++ [c]) = bitsOf fs cs ||| 2 ^ fs.idxOf c := by
  unfold bitsOf
  rw [List.foldl_append] <;> rfl
theorem has_fact_set {f : Addr} {fd : FuncData} (F : Fun K "fact_set" "fact_set" s_fact_set f fd) (O : Own mg) (g : mg "fact_set" = some (.ref f)) (h_case_of : Has P w K mg base 1 "case_of" ["text", "claim"] (sp_case_of K CT CA)) : Has P w K mg base 2 "fact_set" ["text", "facts", "claims"] (sp_fact_set K CT CA) := by
  refine ⟨f, fd, F.ok sc_fact_set (fun vs H Q E h => ?_) (fun cdv A outer s H vs Q E hr h => ?_), g, F.kp, F.binds fun _ _ _ _ _ _ us hl => match us, hl with | [_, _, _], _ => rfl⟩
  · obtain ⟨_, _, _, _, _, _, _, rfl, _⟩ := h
    rfl
  · obtain ⟨A, x, fl, cl, as, cs, fs, rfl, T, hx, hfl, hca, hcl, hcs, hok, zf, q⟩ := h
    have hu65 := hu65_of hr
    refine ⟨_, (pss_cons (ps_set (i := 3) sc_fact_set.nd rfl (Or.inl rfl) pe_int)
      (pss_cons (ps_for PassesOwn.never rfl (pi_list (pv 2)) (pg_name (i := 4) sc_fact_set.nd rfl (Or.inl rfl)) (pss_one (ps_set (i := 3) sc_fact_set.nd rfl (Or.inl rfl) (pe_op op_or (pv 3) (pe_op op_shl pe_int (pe_bm PySem.F.plainAttrs_list PySem.F.slot_list_index PySem.F.type_list_index (mt_indexD hu65) (pv 1) (pa_cons (pe_own h_case_of (hr.mono (by decide)) rfl (pa_cons (pv 0) (pa_cons (pv 4) pa_nil))) pa_nil)))))))
      (pss_one (ps_ret (pv 3))))), ?_⟩
    have hgo := goes_list (K := K) (F := H) (σ := (start ["text", "facts", "claims", "bits", "claim"] [.ref A.a, .ref fl, .ref cl]).set 3 (some (.int 0))) (tl := tVar 2) (ev_var rfl) hcl
    rw [List.length_map] at hgo
    refine q_asg ev_c fun H0 e0 => ?_
    refine q_for hgo e0 (fun i σ H' => ∃ y, σ = [some (.ref A.a), some (.ref fl), some (.ref cl), some (.int (bitsOf (Pn16.facts x) (fs.take i) : Nat)), y] ∧ Ex H H') ?_ ?_ ?_ ?_
    · intro H1 e1
      exact ⟨none, rfl, e0.trans e1⟩
    · rintro i σ' H' _ ⟨_, _, e1⟩
      exact e1
    · rintro i v σ' H1 H' hi ⟨y, rfl, e1⟩ ⟨rfl, hv⟩
      have hc : cs[i]? = some cs[i] := List.getElem?_eq_getElem hi
      obtain ⟨m, hm1, hm2⟩ := P2.geta hcs hc
      rw [List.getElem?_map, hc] at hv
      have ev := Option.some.inj hv
      subst ev
      have hmo := hok m (List.mem_of_getElem? hm1)
      have hmem := said_mem hmo
      have hlt : (Pn16.facts x).idxOf m < (Pn16.facts x).length := List.idxOf_lt_length_of_mem hmem
      -- bits = bits | (1 << facts.index(case_of(text, claim)))
      refine ⟨_, rfl, _, rfl, .inl ⟨rfl, _, ex_l e1 hfl⟩, _, rfl, _, rfl, A, x, cs[i], m, rfl, T.mono e1, hx, ex_t e1 hm2, hmo, said_two hx hmo, fun a b H2 e2 h2 h3 => ?_⟩
      refine ⟨fl, .ref a, caseD m, (Pn16.facts x).map caseD, (Pn16.facts x).idxOf m, caseD m, rfl, rfl, dp_cases (ex_l (e1.trans e2) hfl) (hca.mono (e1.trans e2)), dp_case (st_of h2) (st_of h3), shaped_cases _, shaped_case _, ?_, ?_, fun j z hj hz => ?_, ?_⟩
      · rw [List.getElem?_map, List.getElem?_eq_getElem hlt, List.getElem_idxOf hlt] <;> rfl
      · rw [eqv_case]
        simp
      · have hjl : j < (Pn16.facts x).length := by omega
        rw [List.getElem?_map, List.getElem?_eq_getElem hjl] at hz
        have ez : caseD (Pn16.facts x)[j] = z := Option.some.inj hz
        subst ez
        rw [eqv_case]
        have hne : ¬ ((Pn16.facts x)[j] == m) = true := by
          have := List.not_of_lt_findIdx (p := fun y => y == m) (xs := Pn16.facts x) (i := j) hj
          simpa using this
        refine decide_eq_false fun e => hne ?_
        rw [e]
        exact beq_self_eq_true m
      · refine ⟨1, ((Pn16.facts x).idxOf m : Nat), rfl, rfl, ⟨by omega, by omega, by decide⟩, _, _, rfl, rfl, ?_⟩
        refine ⟨some (.ref cs[i]), ?_, e1.trans e2⟩
        have e3 : Builtin.bitOr ((bitsOf (Pn16.facts x) (fs.take i) : Nat) : Int) (1 * 2 ^ (((Pn16.facts x).idxOf m : Nat) : Int).toNat) = ((bitsOf (Pn16.facts x) (fs.take (i + 1)) : Nat) : Int) := by
          have e4 : (1 : Int) * 2 ^ (((Pn16.facts x).idxOf m : Nat) : Int).toNat = ((2 ^ (Pn16.facts x).idxOf m : Nat) : Int) := by
            rw [Int.one_mul, Int.toNat_natCast, Int.natCast_pow] <;> rfl
          rw [e4, Bits.bitOr_pp (Int.natCast_nonneg _) (Int.natCast_nonneg _), Int.toNat_natCast, Int.toNat_natCast, take_succ hm1, bits_snoc]
        show [_, _, _, some (V.int (Builtin.bitOr _ _)), _] = _
        rw [e3]
    · rintro σ' H' ⟨y, rfl, e1⟩
      refine s_ret (ev_var rfl) fun H2 e2 => ?_
      have z := q H2 (e1.trans e2)
      rw [setOf_bits (facts_nodup x) fun c hc => said_mem (hok c hc)] at z
      rw [hcs.length, List.take_length]
      exact z
end
end KP
set_option Elab.async false
set_option linter.all false
set_option maxRecDepth 100000
set_option maxHeartbeats 400000
/-! form.py: the one form. -/
namespace KP
open PySem PySem.Spec PyProof.Rows L2 Evl
/-- a list at l of lists of texts, all of them new since H0 -/
structure LinesAt (H0 H : Hp) (l : Addr) (as : List Addr) (LL : List (List (List Nat))) : Prop where
  lst : H l = some (.lst (as.map V.ref))
  new : H0 l = none
  each : P2 (fun a ws => H0 a = none ∧ H a = some (.lst (txts ws))) as LL
  apart : l ∉ as
theorem LinesAt.ext {H0 H H' : Hp} {l : Addr} {as : List Addr} {LL : List (List (List Nat))} (e : Ex H H') (h : LinesAt H0 H l as LL) : LinesAt H0 H' l as LL := ⟨e _ _ h.lst, h.new, h.each.mono fun _ _ z => ⟨z.1, e _ _ z.2⟩, h.apart⟩
theorem LinesAt.back {H0 H1 H : Hp} {l : Addr} {as : List Addr} {LL : List (List (List Nat))} (e : Ex H0 H1) (h : LinesAt H1 H l as LL) : LinesAt H0 H l as LL := ⟨h.lst, fresh_back e h.new, h.each.mono fun _ _ z => ⟨fresh_back e z.1, z.2⟩, h.apart⟩
theorem P2.append' {α β : Type} {R : α → β → Prop} {as cs : List α} {bs ds : List β} (h : P2 R as bs) (k : P2 R cs ds) : P2 R (as ++ cs) (bs ++ ds) := h.append k
/-- lines joined: those of a second list behind -/
theorem LinesAt.join {H0 H : Hp} {l : Addr} {as as2 : List Addr} {LL L2 : List (List (List Nat))} (h : LinesAt H0 H l as LL) (h2 : P2 (fun a ws => H0 a = none ∧ H a = some (.lst (txts ws))) as2 L2) (hn : l ∉ as2) : LinesAt H0 (upd H l (.lst (as.map V.ref ++ as2.map V.ref))) l (as ++ as2) (LL ++ L2) := by
  refine ⟨by rw [upd_same, List.map_append], h.new, ?_, fun hm => ?_⟩
  · have key : ∀ {bs : List Addr} {LS : List (List (List Nat))}, l ∉ bs → P2 (fun a ws => H0 a = none ∧ H a = some (.lst (txts ws))) bs LS → P2 (fun a ws => H0 a = none ∧ (upd H l (.lst (as.map V.ref ++ as2.map V.ref))) a = some (.lst (txts ws))) bs LS := fun hb p => p.mono' fun a ha ws _ z => ⟨z.1, by
      have hne : a ≠ l := fun e => hb (e ▸ ha)
      rw [upd_ne hne]
      exact z.2⟩
    exact (key h.apart h.each).append (key hn h2)
  · rcases List.mem_append.mp hm with q | q
    · exact h.apart q
    · exact hn q
theorem LinesAt.add {H0 H : Hp} {l a : Addr} {as : List Addr} {LL : List (List (List Nat))} {ws : List (List Nat)} (h : LinesAt H0 H l as LL) (hn : H0 a = none) (ha : H a = some (.lst (txts ws))) (hne : l ≠ a) : LinesAt H0 (upd H l (.lst (as.map V.ref ++ [.ref a]))) l (as ++ [a]) (LL ++ [ws]) :=
  h.join (as2 := [a]) (L2 := [ws]) (.cons ⟨hn, ha⟩ .nil) (by simpa using hne)
/-- another list changes -/
theorem LinesAt.keep {H0 H : Hp} {l b : Addr} {as : List Addr} {LL : List (List (List Nat))} {o : HO} (h : LinesAt H0 H l as LL) (h1 : b ≠ l) (h2 : b ∉ as) : LinesAt H0 (upd H b o) l as LL := by
  refine ⟨by rw [upd_ne h1.symm]; exact h.lst, h.new, h.each.mono' fun a ha ws _ z => ⟨z.1, ?_⟩, h.apart⟩
  have hne : a ≠ b := fun e => h2 (e ▸ ha)
  rw [upd_ne hne]
  exact z.2
theorem LinesAt.notMem {H0 H : Hp} {l : Addr} {as : List Addr} {LL : List (List (List Nat))} (h : LinesAt H0 H l as LL) {b : Addr} {o : HO} (hb : H0 b = some o) : b ∉ as ∧ b ≠ l := by
  refine ⟨fun hm => ?_, fun e => ?_⟩
  · obtain ⟨ws, _, z⟩ := P2.mem h.each hm
    rw [z.1] at hb
    cases hb
  · rw [e, h.new] at hb
    cases hb
section
variable {K : PySem.W.Frag} {mg : Str → Option Value} {P : Program} {w : World} {base : Heap} {CT CA dR dC dM tO : Addr}
/-- [e for x in xs], each e a new list of texts -/
theorem lc_lines {α : Type} {σ : L2.St} {F : Hp} {wi : TI} {te : TE} {xs : List α} {c : α → V} {f : α → List (List Nat)} {j : Nat} {vs : List Nat} (G : GoesN wi σ F xs.length (YAt (xs.map c))) (hn : xs.length ≤ 40000) (hw : ∀ x, wipe ((wipe σ vs).set j (some x)) vs = wipe σ vs)
    (he : ∀ a ∈ xs, EvL te ((wipe σ vs).set j (some (c a))) F (txts (f a))) (H0 : Hp) (e0 : Ex F H0) (Q : VK) (q : ∀ l as H2, Ex H0 H2 → LinesAt H0 H2 l as (xs.map f) → Q (.ref l) H2) : tLc wi (gName j) tYes te vs σ H0 Q :=
  G H0 e0 _ fun J H1 F2 e1 eF2 e3 hf wk => fun Dl hD =>
    lc_it wk (fun i H' => Ex H1 H' ∧ ∃ as, LinesAt H0 H' Dl as ((xs.take i).map f)) ⟨Ex.new hD, [], upd_same, fresh_back e1 hD, .nil, by simp⟩ (fun i H' _ z => e3.trans z.1) (fun i x H H' hi z y => by
      obtain ⟨rfl, hx⟩ := y
      obtain ⟨z1, as, L⟩ := z
      have ha : xs[i]? = some xs[i] := List.getElem?_eq_getElem hi
      rw [List.getElem?_map, ha] at hx
      have ex := Option.some.inj hx
      subst ex
      refine ⟨hw _, ?_⟩
      show te _ H' _
      have eF : Ex F H' := (e0.trans e1).trans z1
      refine he xs[i] (List.getElem_mem hi) H' eF _ fun p H4 hp e4 h4 => ?_
      have L4 := L.ext e4
      have hlen := L.each.length
      rw [List.length_map, List.length_take] at hlen
      have hne : Dl ≠ p := fun e => by
        rw [← e, L.lst] at hp
        cases hp
      refine ⟨as.map V.ref, L4.lst, sz_lt (by rw [List.length_map]; omega), Ex.mut (z1.trans e4) hD, as ++ [p], ?_⟩
      rw [take_succ ha, List.map_append]
      exact L4.add (fresh_back (e1.trans z1) hp) h4 hne) (fun H' z => by
      obtain ⟨z1, as, L⟩ := z
      rw [List.take_length] at L
      exact q Dl as H' (e1.trans z1) L)
/-! ### claim_lines -/
abbrev s_claim_lines : Stmt := top 63
theorem sc_claim_lines : FnScope ["sort", "claims", "claim"] ["sort", "claims"] (defScope s_claim_lines) := ⟨rfl, rfl, rfl, by decide +kernel, rfl, by decide +kernel, by decide +kernel⟩
def sp_claim_lines (K : PySem.W.Frag) : Sp := fun vs H Q _ => ∃ (k : List Nat) (b : Addr) (ts : List Addr) (rs : List (List (List Nat))), vs = [.str (S k), .ref b] ∧ SqL K H b (ts.map V.ref) ∧ P2 (fun t r => SqT K H t (txts r)) ts rs ∧ rs.length ≤ 100 ∧ (∀ r ∈ rs, r.length ≤ 100) ∧
  ∀ l as H2, Ex H H2 → LinesAt H H2 l as (rs.map fun r => k :: r) → Q (.ref l) H2
theorem has_claim_lines {f : Addr} {fd : FuncData} (F : Fun K "claim_lines" "claim_lines" s_claim_lines f fd) (O : Own mg) (g : mg "claim_lines" = some (.ref f)) : Has P w K mg base 1 "claim_lines" ["sort", "claims"] (sp_claim_lines K) := by
  refine ⟨f, fd, F.ok sc_claim_lines (fun vs H Q E h => ?_) (fun cdv A outer s H vs Q E hr h => ?_), g, F.kp, F.binds fun _ _ _ _ _ _ us hl => match us, hl with | [_, _], _ => rfl⟩
  · obtain ⟨_, _, _, _, rfl, _⟩ := h
    rfl
  · obtain ⟨k, b, ts, rs, rfl, hb, hts, z1, z2, q⟩ := h
    refine ⟨_, (pss_one (ps_ret (pe_lc (own := [("claim", 2)]) (g := gName 2) (tt := tYes) (te := tOp rCat (tLst (tCons (tVar 0) tNil)) (tCB (rListS K) (tCons (tVar 2) tNil))) rfl sc_claim_lines.nd (pi_list (pv 1)) (blkOk_by (N := ["sort", "claims", "claim"]) (sc := defScope s_claim_lines) (by decide +kernel)) (fun _ _ _ _ _ => (pg_name (i := 2) sc_claim_lines.nd rfl (Or.inl rfl))) (fun _ _ _ _ _ => pts_nil) (fun _ _ _ _ _ => (pe_op op_cat (pe_lst (pa_cons (pv 0) pa_nil)) (pe_callTy call_list_of (by rfl) O.list (by decide +kernel) (pa_cons (pv 2) pa_nil))))))), ?_⟩
    have hlen := hts.length
    -- claims and their rows, pair by pair
    have hzip : (ts.zip rs).map (fun p => V.ref p.1) = ts.map V.ref := by
      rw [show (fun p : Addr × List (List Nat) => V.ref p.1) = V.ref ∘ Prod.fst from rfl, ← List.map_map, List.map_fst_zip (by omega)]
    have hgo := goes_list (σ := start ["sort", "claims", "claim"] [.str (S k), .ref b]) (F := H) (K := K) (tl := tVar 1) (ev_var rfl) hb
    have hzl : (ts.zip rs).length = ts.length := by rw [List.length_zip]; omega
    rw [List.length_map, ← hzip, ← hzl] at hgo
    refine lc_lines (xs := ts.zip rs) (c := fun p => V.ref p.1) (f := fun p => k :: p.2) hgo.new (by omega) (fun _ => rfl) (fun p hp => ?_) H (Ex.refl H) _ fun l as H2 e2 L => ?_
    · obtain ⟨t, r⟩ := p
      have hr1 : SqT K H t (txts r) := by
        clear hgo hzip
        have key : ∀ {as : List Addr} {bs : List (List (List Nat))}, P2 (fun t r => SqT K H t (txts r)) as bs → (t, r) ∈ as.zip bs → SqT K H t (txts r) := fun h => by
          induction h with
          | nil => intro hm; exact nomatch hm
          | cons r0 t0 ih =>
            intro hm
            rw [List.zip_cons_cons] at hm
            rcases List.mem_cons.mp hm with e | hm
            · cases e
              exact r0
            · exact ih hm
        exact key hts hp
      have hrl := z2 r (List.of_mem_zip hp).2
      intro H1 e1 Q1 q1
      refine ⟨_, rfl, Nat.le_of_lt (by show 1 < sizeLine; decide), fun c hc => ⟨_, rfl, t, _, rfl, .inr (ex_t (e1.trans (Ex.new hc)) hr1), fun d hd => ?_⟩⟩
      have ec : Ex H1 (upd H1 c (.lst [.str (S k)])) := Ex.new hc
      have ed : Ex (upd H1 c (.lst [.str (S k)])) (upd (upd H1 c (.lst [.str (S k)])) d (.lst (txts r))) := Ex.new hd
      refine ⟨c, d, _, _, rfl, rfl, ed _ _ upd_same, upd_same, ?_, fun a ha => ?_⟩
      · rw [List.length_map]
        exact sz_of (by simp; omega)
      · exact q1 a _ (fresh_back (ec.trans ed) ha) ((ec.trans ed).trans (Ex.new ha)) upd_same
    · have e : (ts.zip rs).map (fun p => k :: p.2) = rs.map fun r => k :: r := by
        rw [show (fun p : Addr × List (List Nat) => k :: p.2) = (fun r => k :: r) ∘ Prod.snd from rfl, ← List.map_map, List.map_snd_zip (by omega)]
      rw [e] at L
      exact q l as H2 e2 L
end
end KP
set_option Elab.async false
set_option linter.all false
set_option maxRecDepth 100000
set_option maxHeartbeats 400000
namespace KP
open PySem PySem.Spec PyProof.Rows L2 Evl
theorem str_cost : ∀ n : Nat, n < 1000 → ((toString ((n : Nat) : Int) : String) : Str) = S (Pn16.digits n) := by decide +kernel
/-- the lines of an act -/
def actFirst (x : Pn16.Text) (s : Pn16.Schema) : List (List Nat) := kAct :: s.name :: Pn16.digits s.cost :: s.places.flatMap fun p => [p.1, kindName x p.2]
def sortLines (x : Pn16.Text) (s : Pn16.Schema) (k : List Nat) : List (List (List Nat)) := (Pn16.litsOf (which k) s).map fun q => k :: litWords x s q
def actLines (x : Pn16.Text) (s : Pn16.Schema) : List (List (List Nat)) := actFirst x s :: ([kNeeds, kBars, kBrings, kTakes].flatMap (sortLines x s))
section
variable {K : PySem.W.Frag} {mg : Str → Option Value} {P : Program} {w : World} {base : Heap} {CT CA dR dC dM tO : Addr}
theorem goes_zip {σ : L2.St} {F : Hp} {ta tb : TE} {a b : Addr} {xs ys : List V} (ha : Ev ta σ F (.ref a)) (hb : Ev tb σ F (.ref b)) (hx : SqL K F a xs) (hy : SqL K F b ys) : Goes (iZip K (tCons ta (tCons tb tNil))) σ F (min xs.length ys.length) (YPair (fun i => xs[i]?) (fun i => ys[i]?)) := fun H1 e R q =>
  ha H1 e _ fun H2 e2 => hb H2 (e.trans e2) _ fun H3 e3 => ⟨a, b, xs, ys, rfl, ex_l ((e.trans e2).trans e3) hx, ex_l ((e.trans e2).trans e3) hy, q _ H3 (e2.trans e3) ((walk_zip rfl).mono (fun H g => ⟨ex_l g hx, ex_l g hy⟩) (fun _ _ _ _ _ _ y => y))⟩
theorem ev_dget {σ : L2.St} {F : Hp} {td ty : TE} {a : Addr} {z : Str} {kvs : List (Key × V)} {v : V} (hd : Ev td σ F (.ref a)) (hy : Ev ty σ F (.str z)) (h : F a = some (.dK kvs)) (hv : valV kvs (Sum.inr z) = some v) : Ev (tDGet td ty) σ F v := fun H1 e Q q =>
  hd H1 e _ fun H2 e2 => hy H2 (e.trans e2) _ fun H3 e3 => ⟨a, v, rfl, by
    have := DGet.k (H := H3) (a := a) (kvs := kvs) (k := Sum.inr z) (((e.trans e2).trans e3) _ _ h)
    rw [hv] at this
    exact this, q H3 (e2.trans e3)⟩
/-- an own def's answer as the one argument -/
theorem tc_call {σ : L2.St} {F H : Hp} {sp : Sp} {ta : TA} {vs : List V} {R : List V → Hp → Prop} (ha : EvA ta σ F vs) (e : Ex F H) (h : ∀ H1, Ex H H1 → sp vs H1 (fun v H2 => R [v] H2) E0) : tCons (tCall sp [] E0 ta) tNil σ H R := ha H e _ fun H1 e1 => by
  show sp (vs ++ []) H1 (fun v H2 => R [v] H2) E0
  rw [List.append_nil]
  exact h H1 e1
theorem lit_two {x : Pn16.Text} {s : Pn16.Schema} (hx : TextOk x) {l : Pn16.Lit} (h : LitOk x s l) : l.2.length ≤ 2 := by
  have e := congrArg List.length h.kinds
  rw [List.length_map] at e
  rw [e]
  unfold Pn16.kindsOf
  rw [List.getElem?_eq_getElem h.fact]
  exact (hx.facts.2.2 _ (List.getElem_mem h.fact)).2.1
theorem litsOf_ok {x : Pn16.Text} {s : Pn16.Schema} (h : ActOk x s) (k : Nat) : (Pn16.litsOf k s).length ≤ 6 ∧ ∀ l ∈ Pn16.litsOf k s, LitOk x s l := by
  unfold Pn16.litsOf
  split
  · exact h.needs
  · split
    · exact h.bars
    · split
      · exact h.brings
      · exact h.takes
abbrev s_act_lines : Stmt := top 62
theorem sc_act_lines : FnScope ["act", "first", "place", "kind", "lines", "sort"] ["act"] (defScope s_act_lines) := ⟨rfl, rfl, rfl, by decide +kernel, rfl, by decide +kernel, by decide +kernel⟩
def sp_act_lines (CA : Addr) : Sp := fun vs H Q _ => ∃ (B : ActA) (x : Pn16.Text) (s : Pn16.Schema), vs = [.ref B.b] ∧ ActAt CA H x B s ∧ ActOk x s ∧ TextOk x ∧ ∀ l as H2, Ex H H2 → LinesAt H H2 l as (actLines x s) → Q (.ref l) H2
theorem has_act_lines {f : Addr} {fd : FuncData} (F : Fun K "act_lines" "act_lines" s_act_lines f fd) (O : Own mg) (C : Clss K CT CA) (BT : Tabs K w mg dR dC dM tO) (g : mg "act_lines" = some (.ref f)) (h_claim_lines : Has P w K mg base 1 "claim_lines" ["sort", "claims"] (sp_claim_lines K)) : Has P w K mg base 2 "act_lines" ["act"] (sp_act_lines CA) := by
  refine ⟨f, fd, F.ok sc_act_lines (fun vs H Q E h => ?_) (fun cdv A outer s H vs Q E hr h => ?_), g, F.kp, F.binds fun _ _ _ _ _ _ us hl => match us, hl with | [_], _ => rfl⟩
  · obtain ⟨_, _, _, rfl, _⟩ := h
    rfl
  · obtain ⟨B, x, s, rfl, T, hs, hx, q⟩ := h
    have hu := hu_of hr
    refine ⟨_, (pss_cons (ps_set (i := 1) sc_act_lines.nd rfl (Or.inl rfl) (pe_lst (pa_cons pe_str (pa_cons (pe_fld (pv 0) (by rfl)) (pa_cons (pe_callTy call_str_int (by rfl) O.str (by decide +kernel) (pa_cons (pe_fld (pv 0) (by rfl)) pa_nil)) pa_nil)))))
      (pss_cons (ps_for PassesOwn.never rfl (pi_zip (by rfl) O.zip (pa_cons (pe_fld (pv 0) (by rfl)) (pa_cons (pe_fld (pv 0) (by rfl)) pa_nil))) (pg_tup rfl (pgs_cons (pg_name (i := 2) sc_act_lines.nd rfl (Or.inl rfl)) (pgs_cons (pg_name (i := 3) sc_act_lines.nd rfl (Or.inl rfl)) pgs_nil))) (pss_one (ps_expr (pe_bm PySem.F.plainAttrs_list PySem.F.slot_list_extend PySem.F.type_list_extend mt_extend (pv 1) (pa_cons (pe_lst (pa_cons (pv 2) (pa_cons (pv 3) pa_nil))) pa_nil)))))
      (pss_cons (ps_set (i := 4) sc_act_lines.nd rfl (Or.inl rfl) (pe_lst (pa_cons (pv 1) pa_nil)))
      (pss_cons (ps_for PassesOwn.never rfl (pi_tup (pe_gref BT.gO rfl)) (pg_name (i := 5) sc_act_lines.nd rfl (Or.inl rfl)) (pss_one (ps_expr (pe_bm PySem.F.plainAttrs_list PySem.F.slot_list_extend PySem.F.type_list_extend mt_extend (pv 4) (pa_cons (pe_own h_claim_lines (hr.mono (by decide)) rfl (pa_cons (pv 5) (pa_cons (pe_dget hu (pe_fld (pv 0) (by rfl)) (pv 5) (fun _ _ => rfl)) pa_nil))) pa_nil)))))
      (pss_one (ps_ret (pv 4))))))), ?_⟩
    -- first = ["act", act.name, str(act.cost)]
    have hE : EvL (tLst (tCons (tC (.str "act")) (tCons (tFld K (tVar 0) "name") (tCons (tCB (fun xs H Q => ∃ i, xs = [V.int i] ∧ i.natAbs.log2 < 1920 ∧ Q (.str (toString i)) H) (tCons (tFld K (tVar 0) "cost") tNil)) tNil)))) (start ["act", "first", "place", "kind", "lines", "sort"] [.ref B.b]) H (txts [kAct, s.name, Pn16.digits s.cost]) := by
      have hA : EvA (tCons (tC (.str "act")) (tCons (tFld K (tVar 0) "name") (tCons (tCB (fun xs H Q => ∃ i, xs = [V.int i] ∧ i.natAbs.log2 < 1920 ∧ Q (.str (toString i)) H) (tCons (tFld K (tVar 0) "cost") tNil)) tNil))) (start ["act", "first", "place", "kind", "lines", "sort"] [.ref B.b]) H (txts [kAct, s.name, Pn16.digits s.cost]) := by
        refine ea_cons (by rw [key_act]; exact ev_c) (ea_cons (ev_aname T C (ev_var rfl)) (ea_cons (ev_cb (ea_cons (ev_acost T C (ev_var rfl)) ea_nil) fun H1 _ Q1 q1 => ⟨(s.cost : Int), rfl, ?_, ?_⟩) ea_nil))
        · have h9 := hs.cost.2
          have : (s.cost : Int).natAbs = s.cost := by omega
          rw [this]
          exact Nat.lt_of_le_of_lt (Nat.log2_le_self _) (by omega)
        · rw [str_cost s.cost (by have := hs.cost.2; omega)]
          exact q1 H1 (Ex.refl H1)
      exact fun H1 e1 Q1 q1 => hA H1 e1 _ fun H2 e2 => ⟨Nat.le_of_lt (by show 3 < sizeLine; decide), fun l hl => q1 l _ (fresh_back e2 hl) (e2.trans (Ex.new hl)) upd_same⟩
    refine q_asgL hE fun p H1 hp e1 h1 => ?_
    have T1 := T.mono e1
    have hzip := goes_zip (K := K) (σ := (start ["act", "first", "place", "kind", "lines", "sort"] [.ref B.b]).set 1 (some (.ref p))) (F := H) (ta := tFld K (tVar 0) "places") (tb := tFld K (tVar 0) "kinds") (ev_aplaces T C (ev_var rfl)) (ev_akinds T C (ev_var rfl)) (sq_of T.places) (sq_of T.kinds)
    have hmin : min (txts (Pn16.names s.places)).length (txts (s.places.map fun p => kindName x p.2)).length = s.places.length := by
      rw [List.length_map, List.length_map, List.length_map, names_len]
      exact Nat.min_self _
    rw [hmin] at hzip
    have few := hs.few
    refine q_for hzip e1 (fun i σ H' => ∃ y2 y3, σ = [some (.ref B.b), some (.ref p), y2, y3, none, none] ∧ Ex H H' ∧ H' p = some (.lst (txts (kAct :: s.name :: Pn16.digits s.cost :: (s.places.take i).flatMap fun p => [p.1, kindName x p.2])))) ?_ ?_ ?_ ?_
    · intro H2 e2
      exact ⟨none, none, rfl, e1.trans e2, e2 _ _ h1⟩
    · rintro i σ' H' _ ⟨_, _, _, e2, _⟩
      exact e2
    · rintro i v σ' H2 H' hi ⟨y2, y3, rfl, e2, h2⟩ ⟨N, u, o, rfl, hN, rfl, hu1, ho1⟩
      have hu2 : (txts (Pn16.names s.places))[i]? = some u := hu1
      have ho2 : (txts (s.places.map fun p => kindName x p.2))[i]? = some o := ho1
      have hpi : s.places[i]? = some s.places[i] := List.getElem?_eq_getElem hi
      have hu3 : (txts (Pn16.names s.places))[i]? = some (.str (S (s.places[i]).1)) := by
        unfold Pn16.names txts
        rw [List.map_map, List.getElem?_map, hpi] <;> rfl
      have ho3 : (txts (s.places.map fun p => kindName x p.2))[i]? = some (.str (S (kindName x (s.places[i]).2))) := by
        unfold txts
        rw [List.map_map, List.getElem?_map, hpi] <;> rfl
      rw [hu3] at hu2
      rw [ho3] at ho2
      cases hu2
      cases ho2
      refine g_pair (K := K) upd_same ?_
      have eN : Ex H2 (upd H2 N (.tup [.str (S (s.places[i]).1), .str (S (kindName x (s.places[i]).2))])) := Ex.new hN
      refine ⟨_, rfl, .inl ⟨rfl, _, sq_of (eN _ _ h2)⟩, _, rfl, _, rfl, Nat.le_of_lt (by show 2 < sizeLine; decide), fun d hd => ?_⟩
      have ed : Ex (upd H2 N (.tup [.str (S (s.places[i]).1), .str (S (kindName x (s.places[i]).2))])) (upd (upd H2 N (.tup [.str (S (s.places[i]).1), .str (S (kindName x (s.places[i]).2))])) d (.lst [.str (S (s.places[i]).1), .str (S (kindName x (s.places[i]).2))])) := Ex.new hd
      refine ⟨p, d, _, _, rfl, rfl, (eN.trans ed) _ _ h2, upd_same, ?_, _, _, rfl, Ex.mut ((e2.trans eN).trans ed) hp, ?_⟩
      · have hfl : ((s.places.take i).flatMap fun p => [p.1, kindName x p.2]).length ≤ 4 := by
          have : ∀ l : List (Pn16.Bytes × Nat), (l.flatMap fun p => [p.1, kindName x p.2]).length = 2 * l.length := by
            intro l
            induction l with
            | nil => rfl
            | cons a l ih => simp [List.flatMap_cons, ih]; omega
          rw [this, List.length_take]
          omega
        refine sz_of ?_
        simp only [List.length_map, List.length_cons, List.length_nil]
        omega
      · rw [upd_same, take_succ hpi, List.flatMap_append]
        show _ = some (HO.lst (txts (kAct :: s.name :: Pn16.digits s.cost :: ((s.places.take i).flatMap fun p => [p.1, kindName x p.2]) ++ [(s.places[i]).1, kindName x (s.places[i]).2])))
        unfold txts
        rw [List.map_append] <;> rfl
    · rintro σ' H2 ⟨y2, y3, rfl, e2, h2⟩
      rw [List.take_length] at h2
      -- lines = [first]
      refine ⟨_, rfl, Nat.le_of_lt (by show 1 < sizeLine; decide), fun l hl => ?_⟩
      have el : Ex H2 (upd H2 l (.lst [.ref p])) := Ex.new hl
      have hlp : l ≠ p := fun e => by
        rw [e, h2] at hl
        cases hl
      have L0 : LinesAt H (upd H2 l (.lst [.ref p])) l [p] [actFirst x s] := ⟨upd_same, fresh_back e2 hl, .cons ⟨hp, el _ _ h2⟩ .nil, by simpa using hlp⟩
      have hgo := goes_tup (K := K) (F := H) (σ := [some (.ref B.b), some (.ref p), y2, y3, some (.ref l), none]) (tl := tC (.ref tO)) ev_c (BT.ofAct H)
      rw [List.length_map] at hgo
      refine q_for hgo (e2.trans el) (fun i σ H' => ∃ as y5, σ = [some (.ref B.b), some (.ref p), y2, y3, some (.ref l), y5] ∧ Ex H H' ∧ LinesAt H H' l as (actFirst x s :: (([kNeeds, kBars, kBrings, kTakes] : List (List Nat)).take i).flatMap (sortLines x s))) ?_ ?_ ?_ ?_
      · intro H3 e3
        exact ⟨[p], none, rfl, (e2.trans el).trans e3, L0.ext e3⟩
      · rintro i σ' H' _ ⟨_, _, _, e3, _⟩
        exact e3
      · rintro i v σ' H3 H' hi ⟨as, y5, rfl, e3, L⟩ ⟨rfl, hv⟩
        have hki : ([kNeeds, kBars, kBrings, kTakes] : List (List Nat))[i]? = some ([kNeeds, kBars, kBrings, kTakes] : List (List Nat))[i] := List.getElem?_eq_getElem hi
        generalize hk0 : ([kNeeds, kBars, kBrings, kTakes] : List (List Nat))[i] = k at hki
        rw [List.getElem?_map, hki] at hv
        have ev := Option.some.inj hv
        subst ev
        have hof : ofAct k = true := by
          have hm := List.mem_of_getElem? hki
          unfold ofAct
          refine decide_eq_true ?_
          simpa using hm
        have T3 := T.mono e3
        have cl := T3.claims (which k)
        obtain ⟨l6, lok⟩ := litsOf_ok hs (which k)
        -- lines.extend(claim_lines(sort, act.claims[sort]))
        have hA : EvA (tCons (tVar 5) (tCons (tDGet (tFld K (tVar 0) "claims") (tVar 5)) tNil)) [some (.ref B.b), some (.ref p), y2, y3, some (.ref l), some (.str (S k))] H' [.str (S k), .ref (B.l (which k))] :=
          ea_cons (ev_var rfl) (ea_cons (ev_dget (ev_aclaims T3 C (ev_var rfl)) (ev_var rfl) T3.dict (valV_claims B hof)) ea_nil)
        refine ⟨_, rfl, .inl ⟨rfl, _, sq_of L.lst⟩, tc_call hA (Ex.refl H') fun H4 e4 => ?_⟩
        have P4 : ∀ {ts : List Addr} {ls : List Pn16.Lit}, P2 (fun t q => H' t = some (.tup (txts (litWords x s q)))) ts ls → P2 (fun t r => SqT K H4 t (txts r)) ts (ls.map (litWords x s)) := fun h => by
          induction h with
          | nil => exact .nil
          | cons r t ih => exact .cons (st_of (e4 _ _ r)) ih
        refine ⟨k, B.l (which k), B.ts (which k), (Pn16.litsOf (which k) s).map (litWords x s), rfl, sq_of (e4 _ _ cl.1), P4 cl.2, ?_, fun r hr => ?_, fun l2 as2 H5 e5 L2 => ?_⟩
        · rw [List.length_map]
          omega
        · obtain ⟨q, hq, rfl⟩ := List.mem_map.mp hr
          have := lit_two hx (lok q hq)
          unfold litWords
          rw [List.length_cons, List.length_map]
          omega
        · have L4 := (L.ext e4).ext e5
          have Lb := L2.back (e3.trans e4)
          obtain ⟨hn, _⟩ := L2.notMem (e4 _ _ L.lst)
          refine ⟨l, l2, _, _, rfl, rfl, L4.lst, L2.lst, ?_, as ++ as2, some (.str (S k)), rfl, Ex.mut ((e3.trans e4).trans e5) L.new, ?_⟩
          · have z1 := L.each.length
            have z2 := L2.each.length
            have hb : ∀ j, ((([kNeeds, kBars, kBrings, kTakes] : List (List Nat)).take j).flatMap (sortLines x s)).length ≤ 24 := by
              intro j
              have h1 : ∀ ks : List (List Nat), (ks.flatMap (sortLines x s)).length ≤ 6 * ks.length := by
                intro ks
                induction ks with
                | nil => simp
                | cons a ks ih =>
                  rw [List.flatMap_cons, List.length_append, List.length_cons]
                  have : (sortLines x s a).length ≤ 6 := by
                    unfold sortLines
                    rw [List.length_map]
                    exact (litsOf_ok hs _).1
                  omega
              have h2 := h1 (([kNeeds, kBars, kBrings, kTakes] : List (List Nat)).take j)
              have h3 : (([kNeeds, kBars, kBrings, kTakes] : List (List Nat)).take j).length ≤ 4 := by
                rw [List.length_take]
                exact Nat.min_le_right _ _
              omega
            have hbi := hb i
            rw [List.length_cons] at z1
            rw [List.length_map, List.length_map] at z2
            rw [List.length_map, List.length_map]
            exact sz_of (by omega)
          · have := L4.join Lb.each hn
            rw [take_succ hki, List.flatMap_append, ← List.cons_append]
            have e : ([k] : List (List Nat)).flatMap (sortLines x s) = ((Pn16.litsOf (which k) s).map (litWords x s)).map fun r => k :: r := by
              rw [List.flatMap_cons, List.flatMap_nil, List.append_nil, List.map_map] <;> rfl
            rw [e]
            exact this
      · rintro σ' H3 ⟨as, y5, rfl, e3, L⟩
        refine s_ret (ev_var rfl) fun H4 e4 => q l as H4 (e3.trans e4) (L.ext e4)
end
end KP
set_option Elab.async false
set_option linter.all false
set_option maxRecDepth 100000
set_option maxHeartbeats 400000
namespace KP
open PySem PySem.Spec PyProof.Rows L2 Evl
def formLines (x : Pn16.Text) : List (List (List Nat)) := (x.kinds.map fun n => [kKind, n]) ++ (x.things.map fun t => [kThing, t.1, kindName x t.2]) ++ (x.facts.map fun f => kFact :: f.1 :: f.2.map (kindName x)) ++ x.acts.flatMap (actLines x) ++ (x.now.map fun f => kNow :: saidWords x f) ++ (x.want.map fun f => kWant :: saidWords x f)
theorem print_is (x : Pn16.Text) : (formLines x).flatMap Pn16.line = Pn16.print x := by
  unfold formLines Pn16.print
  simp only [List.flatMap_append, List.flatMap_map, List.append_assoc]
  have hact : (x.acts.flatMap (actLines x)).flatMap Pn16.line = x.acts.flatMap fun s => Pn16.line (Pn16.ascii "act" :: s.name :: Pn16.digits s.cost :: s.places.flatMap fun p => [p.1, x.kinds.getD p.2 []]) ++ ((s.needs.flatMap (Pn16.litLine x s "needs")) ++ ((s.bars.flatMap (Pn16.litLine x s "bars")) ++ ((s.brings.flatMap (Pn16.litLine x s "brings")) ++ s.takes.flatMap (Pn16.litLine x s "takes")))) := by
    rw [List.flatMap_assoc]
    congr 1
    funext s
    unfold actLines
    rw [List.flatMap_cons, a_act]
    congr 1
    have hs : ∀ k, (sortLines x s k).flatMap Pn16.line = (Pn16.litsOf (which k) s).flatMap fun q => Pn16.line (k :: litWords x s q) := fun k => by
      unfold sortLines
      rw [List.flatMap_map]
    simp only [List.flatMap_cons, List.flatMap_nil, List.append_nil, List.flatMap_append, hs]
    have n1 : Pn16.litLine x s "needs" = fun q => Pn16.line (kNeeds :: litWords x s q) := by
      funext q
      unfold Pn16.litLine litWords
      rw [a_needs]
    have n2 : Pn16.litLine x s "bars" = fun q => Pn16.line (kBars :: litWords x s q) := by
      funext q
      unfold Pn16.litLine litWords
      rw [a_bars]
    have n3 : Pn16.litLine x s "brings" = fun q => Pn16.line (kBrings :: litWords x s q) := by
      funext q
      unfold Pn16.litLine litWords
      rw [a_brings]
    have n4 : Pn16.litLine x s "takes" = fun q => Pn16.line (kTakes :: litWords x s q) := by
      funext q
      unfold Pn16.litLine litWords
      rw [a_takes]
    rw [n1, n2, n3, n4]
    rfl
  rw [hact, a_kind, a_thing, a_fact, a_now, a_want] <;> rfl
/-! ### sizes -/
theorem name_len {l : List Nat} (h : Pn16.isName l = true) : l.length ≤ 8 := by
  cases l with
  | nil => simp
  | cons c r =>
    have h' : (Pn16.isLetter c && (decide (r.length ≤ 7) && r.all fun c => Pn16.isLetter c || Pn16.isDigit c)) = true := h
    rw [Bool.and_eq_true, Bool.and_eq_true, decide_eq_true_iff] at h'
    rw [List.length_cons]
    omega
theorem getD_len {l : List (List Nat)} (h : ∀ n ∈ l, n.length ≤ 8) (i : Nat) : (l.getD i []).length ≤ 8 := by
  rw [List.getD_eq_getElem?_getD]
  cases e : l[i]? with
  | none => simp
  | some n => exact h n (List.mem_of_getElem? e)
theorem kindName_len {x : Pn16.Text} (hx : TextOk x) (k : Nat) : (kindName x k).length ≤ 8 := getD_len (fun n hn => name_len (hx.kinds.2.2 n hn)) k
theorem names_short {α : Type} {l : List (Pn16.Bytes × α)} (h : ∀ t ∈ l, Pn16.isName t.1 = true) : ∀ n ∈ Pn16.names l, n.length ≤ 8 := fun n hn => by
  obtain ⟨t, ht, rfl⟩ := List.mem_map.mp hn
  exact name_len (h t ht)
theorem thingName_len {x : Pn16.Text} (hx : TextOk x) (k : Nat) : (Pn16.thingName x k).length ≤ 8 := getD_len (names_short fun t ht => (hx.things.2.2 t ht).1) k
theorem factName_len {x : Pn16.Text} (hx : TextOk x) (k : Nat) : (Pn16.factName x k).length ≤ 8 := getD_len (names_short fun t ht => (hx.facts.2.2 t ht).1) k
theorem argName_len {x : Pn16.Text} (hx : TextOk x) {s : Pn16.Schema} (hs : ActOk x s) (a : Pn16.Arg) : (Pn16.argName x s a).length ≤ 8 := by
  cases a with
  | place i => exact getD_len (names_short fun t ht => (hs.places t ht).1) i
  | thing k => exact thingName_len hx k
/-- a line's words are few and short -/
def Short (ws : List (List Nat)) : Prop := ws ≠ [] ∧ ws.length ≤ 7 ∧ ∀ v ∈ ws, v.length ≤ 8
theorem short_sum {ws : List (List Nat)} (h : Short ws) : (ws.map (·.length)).sum + ws.length ≤ 63 := by
  obtain ⟨_, h1, h2⟩ := h
  have : ∀ l : List (List Nat), (∀ v ∈ l, v.length ≤ 8) → (l.map (·.length)).sum ≤ 8 * l.length := by
    intro l
    induction l with
    | nil => intro _; simp
    | cons a l ih =>
      intro hl
      have h3 := ih fun v hv => hl v (List.mem_cons_of_mem _ hv)
      have h4 := hl a (List.mem_cons_self ..)
      rw [List.map_cons, List.sum_cons, List.length_cons]
      omega
  have := this ws h2
  omega
theorem short_line {ws : List (List Nat)} (h : Short ws) : (Pn16.line ws).length ≤ 64 := by
  rw [← joinL_line ws h.1, List.length_append]
  have h1 := joinL_len ws
  have h2 := short_sum h
  simp
  omega
theorem digits_len (n : Nat) : (Pn16.digits n).length ≤ 8 := by
  unfold Pn16.digits
  split
  · simp
  · split <;> simp
theorem lines_short {x : Pn16.Text} (hx : TextOk x) : ∀ ws ∈ formLines x, Short ws := by
  have sh : ∀ {ws : List (List Nat)}, ws ≠ [] → ws.length ≤ 7 → (∀ v ∈ ws, v.length ≤ 8) → Short ws := fun a b c => ⟨a, b, c⟩
  have hsaid : ∀ (k : List Nat), k.length ≤ 8 → ∀ f, SaidOk x f → Short (k :: saidWords x f) := fun k hk f hf => by
    have := said_two hx hf
    refine sh (by simp) (by unfold saidWords; simp; omega) fun v hv => ?_
    unfold saidWords at hv
    rcases List.mem_cons.mp hv with e | hv
    · rw [e]; exact hk
    · rcases List.mem_cons.mp hv with e | hv
      · rw [e]; exact factName_len hx _
      · obtain ⟨i, _, rfl⟩ := List.mem_map.mp hv
        exact thingName_len hx i
  intro ws hw
  unfold formLines at hw
  rcases List.mem_append.mp hw with hw | hw
  · rcases List.mem_append.mp hw with hw | hw
    · rcases List.mem_append.mp hw with hw | hw
      · rcases List.mem_append.mp hw with hw | hw
        · rcases List.mem_append.mp hw with hw | hw
          · obtain ⟨n, hn, rfl⟩ := List.mem_map.mp hw
            refine sh (by simp) (by simp) fun v hv => ?_
            have h1 := name_len (hx.kinds.2.2 n hn)
            have h2 : kKind.length ≤ 8 := by decide
            rcases List.mem_cons.mp hv with e | hv
            · rw [e]; exact h2
            · have e : v = n := by simpa using hv
              rw [e]; exact h1
          · obtain ⟨t, ht, rfl⟩ := List.mem_map.mp hw
            have h1 := name_len (hx.things.2.2 t ht).1
            have h2 : kThing.length ≤ 8 := by decide
            have h3 := kindName_len hx t.2
            refine sh (by simp) (by simp) fun v hv => ?_
            have e : v = kThing ∨ v = t.1 ∨ v = kindName x t.2 := by simpa using hv
            rcases e with e | e | e <;> rw [e] <;> assumption
        · obtain ⟨f, hf, rfl⟩ := List.mem_map.mp hw
          have h0 := hx.facts.2.2 f hf
          have h1 := name_len h0.1
          have h2 : kFact.length ≤ 8 := by decide
          refine sh (by simp) (by simp; have := h0.2.1; omega) fun v hv => ?_
          rcases List.mem_cons.mp hv with e | hv
          · rw [e]; exact h2
          · rcases List.mem_cons.mp hv with e | hv
            · rw [e]; exact h1
            · obtain ⟨k, _, rfl⟩ := List.mem_map.mp hv
              exact kindName_len hx k
      · obtain ⟨s, hs, hw⟩ := List.mem_flatMap.mp hw
        have hso := hx.acts.2.2 s hs
        unfold actLines at hw
        rcases List.mem_cons.mp hw with e | hw
        · rw [e]
          unfold actFirst
          have hfl : (s.places.flatMap fun p => [p.1, kindName x p.2]).length = 2 * s.places.length := by
            have : ∀ l : List (Pn16.Bytes × Nat), (l.flatMap fun p => [p.1, kindName x p.2]).length = 2 * l.length := by
              intro l
              induction l with
              | nil => rfl
              | cons a l ih => simp [List.flatMap_cons, ih]; omega
            exact this _
          refine sh (by simp) ?_ fun v hv => ?_
          · simp only [List.length_cons, hfl]
            have := hso.few
            omega
          · have h2 : kAct.length ≤ 8 := by decide
            rcases List.mem_cons.mp hv with e | hv
            · rw [e]; exact h2
            · rcases List.mem_cons.mp hv with e | hv
              · rw [e]; exact name_len hso.name
              · rcases List.mem_cons.mp hv with e | hv
                · rw [e]; exact digits_len _
                · obtain ⟨p, hp, hv⟩ := List.mem_flatMap.mp hv
                  have e : v = p.1 ∨ v = kindName x p.2 := by simpa using hv
                  rcases e with e | e
                  · rw [e]; exact name_len (hso.places p hp).1
                  · rw [e]; exact kindName_len hx _
        · obtain ⟨k, hk, hw⟩ := List.mem_flatMap.mp hw
          obtain ⟨q, hq, rfl⟩ := List.mem_map.mp hw
          have hlo := (litsOf_ok hso (which k)).2 q hq
          have h2 := lit_two hx hlo
          have hkl : k.length ≤ 8 := by
            have : k = kNeeds ∨ k = kBars ∨ k = kBrings ∨ k = kTakes := by simpa using hk
            rcases this with e | e | e | e <;> rw [e] <;> decide
          refine sh (by simp) (by unfold litWords; simp; omega) fun v hv => ?_
          unfold litWords at hv
          rcases List.mem_cons.mp hv with e | hv
          · rw [e]; exact hkl
          · rcases List.mem_cons.mp hv with e | hv
            · rw [e]; exact factName_len hx _
            · obtain ⟨a, _, rfl⟩ := List.mem_map.mp hv
              exact argName_len hx hso a
    · obtain ⟨f, hf, rfl⟩ := List.mem_map.mp hw
      exact hsaid kNow (by decide) f (hx.now.2 f hf)
  · obtain ⟨f, hf, rfl⟩ := List.mem_map.mp hw
    exact hsaid kWant (by decide) f (hx.want.2 f hf)
theorem actLines_len {x : Pn16.Text} {s : Pn16.Schema} (hs : ActOk x s) : (actLines x s).length ≤ 25 := by
  unfold actLines
  rw [List.length_cons]
  have h := hs.needs.1
  have h2 := hs.bars.1
  have h3 := hs.brings.1
  have h4 := hs.takes.1
  have e1 : (sortLines x s kNeeds).length = s.needs.length := by unfold sortLines; rw [List.length_map] <;> rfl
  have e2 : (sortLines x s kBars).length = s.bars.length := by unfold sortLines; rw [List.length_map] <;> rfl
  have e3 : (sortLines x s kBrings).length = s.brings.length := by unfold sortLines; rw [List.length_map] <;> rfl
  have e4 : (sortLines x s kTakes).length = s.takes.length := by unfold sortLines; rw [List.length_map] <;> rfl
  simp only [List.flatMap_cons, List.flatMap_nil, List.append_nil, List.length_append]
  omega
theorem acts_lines_len {x : Pn16.Text} (hx : TextOk x) (n : Nat) : ((x.acts.take n).flatMap (actLines x)).length ≤ 100 := by
  have h1 : ∀ l : List Pn16.Schema, (∀ s ∈ l, ActOk x s) → (l.flatMap (actLines x)).length ≤ 25 * l.length := by
    intro l
    induction l with
    | nil => intro _; simp
    | cons a l ih =>
      intro hl
      rw [List.flatMap_cons, List.length_append, List.length_cons]
      have h3 := ih fun v hv => hl v (List.mem_cons_of_mem _ hv)
      have h4 := actLines_len (hl a (List.mem_cons_self ..))
      omega
  have h2 := h1 (x.acts.take n) fun s hs => hx.acts.2.2 s (List.mem_of_mem_take hs)
  have h3 : (x.acts.take n).length ≤ 4 := by
    rw [List.length_take]
    have := hx.acts.1
    omega
  omega
theorem formLines_len {x : Pn16.Text} (hx : TextOk x) : (formLines x).length ≤ 200 := by
  unfold formLines
  simp only [List.length_append, List.length_map]
  have h1 := hx.kinds.1
  have h2 := hx.things.1
  have h3 := hx.facts.1
  have h4 := acts_lines_len hx x.acts.length
  rw [List.take_length] at h4
  have h5 := hx.now.1
  have h6 := hx.want.1
  omega
section
variable {K : PySem.W.Frag} {mg : Str → Option Value} {P : Program} {w : World} {base : Heap} {CT CA dR dC dM tO : Addr}
/-! ### form_lines -/
abbrev s_form_lines : Stmt := top 61
theorem sc_form_lines : FnScope ["text", "lines", "name", "kind", "kinds", "act"] ["text"] (defScope s_form_lines) := ⟨rfl, rfl, rfl, by decide +kernel, rfl, by decide +kernel, by decide +kernel⟩
def sp_form_lines (CT CA : Addr) : Sp := fun vs H Q _ => ∃ (A : TextA) (x : Pn16.Text), vs = [.ref A.a] ∧ TextAt CT CA H A x ∧ TextOk x ∧ ∀ l as H2, Ex H H2 → LinesAt H H2 l as (formLines x) → Q (.ref l) H2
/-- lines.append([..]) -/
theorem app_line {σ : L2.St} {H0 H : Hp} {l : Addr} {as : List Addr} {LL : List (List (List Nat))} {ws : List (List Nat)} {te : TE} {D : Ends} {i : Nat} (L : LinesAt H0 H l as LL) (e0 : Ex H0 H) (hz : as.length ≤ 1000) (hi : σ[i]? = some (some (.ref l))) (he : EvL te σ H (txts ws)) (k : ∀ as' H', Ex H0 H' → LinesAt H0 H' l as' (LL ++ [ws]) → D.nx σ H') :
    tDrop (tBM K "list" rAppend (tVar i) (tCons te tNil)) D σ H :=
  s_appL (K := K) L.lst (ev_var hi) he (by rw [List.length_map]; omega) fun p H1 hp e1 h1 => by
    have hne : l ≠ p := fun e => by
      rw [← e, L.lst] at hp
      cases hp
    exact k _ _ (Ex.mut (e0.trans e1) L.new) ((L.ext e1).add (fresh_back e0 hp) h1 hne)
/-- lines.extend(f(..)) -/
theorem ext_lines {σ : L2.St} {H0 H : Hp} {l : Addr} {as : List Addr} {LL L2 : List (List (List Nat))} {sp : Sp} {ta : TA} {vs : List V} {D : Ends} {i : Nat} (L : LinesAt H0 H l as LL) (e0 : Ex H0 H) (hz : as.length ≤ 1000) (hz2 : L2.length ≤ 1000) (hi : σ[i]? = some (some (.ref l))) (ha : EvA ta σ H vs)
    (hs : ∀ H1, Ex H H1 → ∀ Q : VK, (∀ l2 as2 H2, Ex H1 H2 → LinesAt H1 H2 l2 as2 L2 → Q (.ref l2) H2) → sp vs H1 Q E0) (k : ∀ as' H', Ex H0 H' → LinesAt H0 H' l as' (LL ++ L2) → D.nx σ H') :
    tDrop (tBM K "list" rExtend (tVar i) (tCons (tCall sp [] E0 ta) tNil)) D σ H := by
  refine ⟨_, hi, .inl ⟨rfl, _, sq_of L.lst⟩, tc_call ha (Ex.refl H) fun H1 e1 => hs H1 e1 _ fun l2 as2 H2 e2 M => ?_⟩
  have L1 := (L.ext e1).ext e2
  obtain ⟨hn, _⟩ := M.notMem (e1 _ _ L.lst)
  have z1 := M.each.length
  refine ⟨l, l2, _, _, rfl, rfl, L1.lst, M.lst, by rw [List.length_map, List.length_map]; exact sz_of (by omega), k _ _ (Ex.mut ((e0.trans e1).trans e2) L.new) (L1.join (M.back (e0.trans e1)).each hn)⟩
theorem q_extLines {σ : L2.St} {H0 H : Hp} {l : Addr} {as : List Addr} {LL LM : List (List (List Nat))} {sp : Sp} {ta : TA} {vs : List V} {D : Ends} {tz : TS} {i : Nat} (L : LinesAt H0 H l as LL) (e0 : Ex H0 H) (hz : as.length ≤ 1000) (hz2 : LM.length ≤ 1000) (hi : σ[i]? = some (some (.ref l))) (ha : EvA ta σ H vs)
    (hs : ∀ H1, Ex H H1 → ∀ Q : VK, (∀ l2 as2 H2, Ex H1 H2 → LinesAt H1 H2 l2 as2 LM → Q (.ref l2) H2) → sp vs H1 Q E0) (k : ∀ as' H', Ex H0 H' → LinesAt H0 H' l as' (LL ++ LM) → tz D σ H') :
    tSeq (tDrop (tBM K "list" rExtend (tVar i) (tCons (tCall sp [] E0 ta) tNil))) tz D σ H := ext_lines (D := { D with nx := tz D }) L e0 hz hz2 hi ha hs k
theorem q_asgLines {α : Type} {σ : L2.St} {F H : Hp} {wi : TI} {te : TE} {xs : List α} {c : α → V} {f : α → List (List Nat)} {i j : Nat} {vs : List Nat} {tz : TS} {D : Ends} (G : GoesN wi σ F xs.length (YAt (xs.map c))) (hn : xs.length ≤ 40000) (hw : ∀ x, wipe ((wipe σ vs).set j (some x)) vs = wipe σ vs)
    (he : ∀ a ∈ xs, EvL te ((wipe σ vs).set j (some (c a))) F (txts (f a))) (e0 : Ex F H) (k : ∀ l as H2, Ex H H2 → LinesAt H H2 l as (xs.map f) → tz D (σ.set i (some (.ref l))) H2) : tSeq (tAsg (tLc wi (gName j) tYes te vs) (gName i)) tz D σ H :=
  lc_lines G hn hw he H e0 (fun v H1 => gName i v σ H1 (tz D)) fun l as H2 e2 L => k l as H2 e2 L
theorem el_lst2 {σ : L2.St} {F : Hp} {ta tb : TE} {x y : V} (ha : Ev ta σ F x) (hb : Ev tb σ F y) : EvL (tLst (tCons ta (tCons tb tNil))) σ F [x, y] := fun H1 e Q q =>
  (ea_cons ha (ea_cons hb ea_nil)) H1 e _ fun H2 e2 => ⟨Nat.le_of_lt (by show 2 < sizeLine; decide), fun l hl => q l _ (fresh_back e2 hl) (e2.trans (Ex.new hl)) upd_same⟩
theorem el_lst3 {σ : L2.St} {F : Hp} {ta tb tc : TE} {x y z : V} (ha : Ev ta σ F x) (hb : Ev tb σ F y) (hc : Ev tc σ F z) : EvL (tLst (tCons ta (tCons tb (tCons tc tNil)))) σ F [x, y, z] := fun H1 e Q q =>
  (ea_cons ha (ea_cons hb (ea_cons hc ea_nil))) H1 e _ fun H2 e2 => ⟨Nat.le_of_lt (by show 3 < sizeLine; decide), fun l hl => q l _ (fresh_back e2 hl) (e2.trans (Ex.new hl)) upd_same⟩
/-- a new list + a list -/
theorem el_cat {σ : L2.St} {F : Hp} {ta tb : TE} {b : Addr} {xs ys : List V} (ha : EvL ta σ F xs) (hb : Ev tb σ F (.ref b)) (h : F b = some (.lst ys)) (hz : xs.length + ys.length ≤ 1000) : EvL (tOp rCat ta tb) σ F (xs ++ ys) := fun H1 e Q q =>
  ha H1 e _ fun c H2 hc e2 h2 => hb H2 (e.trans e2) _ fun H3 e3 => ⟨c, b, xs, ys, rfl, rfl, e3 _ _ h2, ((e.trans e2).trans e3) _ _ h, sz_of (by omega), fun p hp => q p _ (fresh_back (e2.trans e3) hp) ((e2.trans e3).trans (Ex.new hp)) upd_same⟩
theorem has_form_lines {f : Addr} {fd : FuncData} (F : Fun K "form_lines" "form_lines" s_form_lines f fd) (O : Own mg) (C : Clss K CT CA) (g : mg "form_lines" = some (.ref f)) (h_claim_lines : Has P w K mg base 1 "claim_lines" ["sort", "claims"] (sp_claim_lines K)) (h_act_lines : Has P w K mg base 2 "act_lines" ["act"] (sp_act_lines CA)) : Has P w K mg base 3 "form_lines" ["text"] (sp_form_lines CT CA) := by
  refine ⟨f, fd, F.ok sc_form_lines (fun vs H Q E h => ?_) (fun cdv A outer s H vs Q E hr h => ?_), g, F.kp, F.binds fun _ _ _ _ _ _ us hl => match us, hl with | [_], _ => rfl⟩
  · obtain ⟨_, _, rfl, _⟩ := h
    rfl
  · obtain ⟨A, x, rfl, T, hx, q⟩ := h
    refine ⟨_, (pss_cons (ps_setLc (i := 1) (own := [("name", 2)]) (g := gName 2) (tt := tYes) (te := tLst (tCons (tC (.str "kind")) (tCons (tVar 2) tNil))) rfl sc_form_lines.nd rfl rfl (sw_true rfl rfl rfl (by decide +kernel)) (pi_list (pe_fld (pv 0) (by rfl))) (blkOk_by (N := ["text", "lines", "name", "kind", "kinds", "act"]) (sc := defScope s_form_lines) (by decide +kernel)) (fun _ _ _ _ _ => (pg_name (i := 2) sc_form_lines.nd rfl (Or.inl rfl))) (fun _ _ _ _ _ => pts_nil) (fun _ _ _ _ _ => (pe_lst (pa_cons pe_str (pa_cons (pv 2) pa_nil)))))
      (pss_cons (ps_for PassesOwn.never rfl (pi_zip (by rfl) O.zip (pa_cons (pe_fld (pv 0) (by rfl)) (pa_cons (pe_fld (pv 0) (by rfl)) pa_nil))) (pg_tup rfl (pgs_cons (pg_name (i := 2) sc_form_lines.nd rfl (Or.inl rfl)) (pgs_cons (pg_name (i := 3) sc_form_lines.nd rfl (Or.inl rfl)) pgs_nil))) (pss_one (ps_expr (pe_bm PySem.F.plainAttrs_list PySem.F.slot_list_append PySem.F.type_list_append mt_append (pv 1) (pa_cons (pe_lst (pa_cons pe_str (pa_cons (pv 2) (pa_cons (pv 3) pa_nil)))) pa_nil)))))
      (pss_cons (ps_for PassesOwn.never rfl (pi_zip (by rfl) O.zip (pa_cons (pe_fld (pv 0) (by rfl)) (pa_cons (pe_fld (pv 0) (by rfl)) pa_nil))) (pg_tup rfl (pgs_cons (pg_name (i := 2) sc_form_lines.nd rfl (Or.inl rfl)) (pgs_cons (pg_name (i := 4) sc_form_lines.nd rfl (Or.inl rfl)) pgs_nil))) (pss_one (ps_expr (pe_bm PySem.F.plainAttrs_list PySem.F.slot_list_append PySem.F.type_list_append mt_append (pv 1) (pa_cons (pe_op op_cat (pe_lst (pa_cons pe_str (pa_cons (pv 2) pa_nil))) (pv 4)) pa_nil)))))
      (pss_cons (ps_for PassesOwn.never rfl (pi_list (pe_fld (pv 0) (by rfl))) (pg_name (i := 5) sc_form_lines.nd rfl (Or.inl rfl)) (pss_one (ps_expr (pe_bm PySem.F.plainAttrs_list PySem.F.slot_list_extend PySem.F.type_list_extend mt_extend (pv 1) (pa_cons (pe_own h_act_lines (hr.mono (by decide)) rfl (pa_cons (pv 5) pa_nil)) pa_nil)))))
      (pss_cons (ps_expr (pe_bm PySem.F.plainAttrs_list PySem.F.slot_list_extend PySem.F.type_list_extend mt_extend (pv 1) (pa_cons (pe_own h_claim_lines (hr.mono (by decide)) rfl (pa_cons pe_str (pa_cons (pe_fld (pv 0) (by rfl)) pa_nil))) pa_nil)))
      (pss_cons (ps_expr (pe_bm PySem.F.plainAttrs_list PySem.F.slot_list_extend PySem.F.type_list_extend mt_extend (pv 1) (pa_cons (pe_own h_claim_lines (hr.mono (by decide)) rfl (pa_cons pe_str (pa_cons (pe_fld (pv 0) (by rfl)) pa_nil))) pa_nil)))
      (pss_one (ps_ret (pv 1))))))))), ?_⟩
    have z1 := hx.kinds.1
    have z2 := hx.things.1
    have z3 := hx.facts.1
    have z4 := hx.acts.1
    have z5 := hx.now.1
    have z6 := hx.want.1
    let La := x.kinds.map fun n => [kKind, n]
    let Lb := x.things.map fun t => [kThing, t.1, kindName x t.2]
    let Lc := x.facts.map fun f => kFact :: f.1 :: f.2.map (kindName x)
    let σ (l : Addr) (a b c d : Option V) : L2.St := [some (.ref A.a), some (.ref l), a, b, c, d]
    -- lines = [["kind", name] for name in text.kinds]
    have hg1 := goes_list (K := K) (F := H) (σ := start ["text", "lines", "name", "kind", "kinds", "act"] [.ref A.a]) (tl := tFld K (tVar 0) "kinds") (ev_kinds T C (ev_var rfl)) (sq_of T.kinds)
    rw [List.length_map] at hg1
    refine q_asgLines (c := fun n => V.str (S n)) (f := fun n => [kKind, n]) hg1.new (by omega) (fun _ => rfl) (fun n hn => ?_) (Ex.refl H) fun l as1 H1 e1 M1 => ?_
    · rw [key_kind]
      exact el_lst2 ev_c (ev_var rfl)
    -- things
    have hg2 := goes_zip (K := K) (σ := σ l none none none none) (F := H) (ta := tFld K (tVar 0) "things") (tb := tFld K (tVar 0) "thing_kinds") (ev_things T C (ev_var rfl)) (ev_thingKinds T C (ev_var rfl)) (sq_of T.things) (sq_of T.thingKinds)
    have hm2 : min (txts (Pn16.names x.things)).length (txts (x.things.map fun t => kindName x t.2)).length = x.things.length := by
      rw [List.length_map, List.length_map, List.length_map, names_len]
      exact Nat.min_self _
    rw [hm2] at hg2
    refine q_for hg2 e1 (fun i τ H' => ∃ as a b, τ = σ l a b none none ∧ Ex H H' ∧ LinesAt H H' l as (La ++ Lb.take i)) ?_ ?_ ?_ ?_
    · intro H2 e2
      refine ⟨as1, none, none, rfl, e1.trans e2, ?_⟩
      have := M1.ext e2
      simpa using this
    · rintro i τ H' _ ⟨_, _, _, _, e2, _⟩
      exact e2
    · rintro i v τ H2 H' hi ⟨as, a, b, rfl, e2, M⟩ ⟨N, u, o, rfl, hN, rfl, hu1, ho1⟩
      have hti : x.things[i]? = some x.things[i] := List.getElem?_eq_getElem hi
      have hu3 : (txts (Pn16.names x.things))[i]? = some (.str (S (x.things[i]).1)) := by
        unfold Pn16.names txts
        rw [List.map_map, List.getElem?_map, hti] <;> rfl
      have ho3 : (txts (x.things.map fun t => kindName x t.2))[i]? = some (.str (S (kindName x (x.things[i]).2))) := by
        unfold txts
        rw [List.map_map, List.getElem?_map, hti] <;> rfl
      have hu2 : (txts (Pn16.names x.things))[i]? = some u := hu1
      have ho2 : (txts (x.things.map fun t => kindName x t.2))[i]? = some o := ho1
      rw [hu3] at hu2
      rw [ho3] at ho2
      cases hu2
      cases ho2
      refine g_pair (K := K) upd_same ?_
      have zl := M.each.length
      rw [List.length_append, List.length_map, List.length_take] at zl
      refine app_line (ws := [kThing, (x.things[i]).1, kindName x (x.things[i]).2]) (M.ext (Ex.new hN)) (e2.trans (Ex.new hN)) (by omega) rfl ?_ fun as' H3 e3 M3 => ⟨as', _, _, rfl, e3, ?_⟩
      · rw [key_thing]
        exact el_lst3 ev_c (ev_var rfl) (ev_var rfl)
      · have hL : Lb[i]? = some [kThing, (x.things[i]).1, kindName x (x.things[i]).2] := by
          show (x.things.map fun t => [kThing, t.1, kindName x t.2])[i]? = _
          rw [List.getElem?_map, hti] <;> rfl
        rw [take_succ hL, ← List.append_assoc]
        exact M3
    rintro τ H2 ⟨as2, a2, b2, rfl, e2, M2⟩
    have hl2 : Lb.length = x.things.length := List.length_map _
    rw [← hl2, List.take_length] at M2
    -- facts
    have hg3 := goes_zip (K := K) (σ := σ l a2 b2 none none) (F := H) (ta := tFld K (tVar 0) "facts") (tb := tFld K (tVar 0) "fact_kinds") (ev_facts T C (ev_var rfl)) (ev_factKinds T C (ev_var rfl)) (sq_of T.facts) (sq_of T.factKinds)
    have hm3 : min (txts (Pn16.names x.facts)).length (A.fks.map V.ref).length = x.facts.length := by
      rw [List.length_map, List.length_map, names_len, T.fks.length]
      exact Nat.min_self _
    rw [hm3] at hg3
    refine q_for hg3 e2 (fun i τ H' => ∃ as a c, τ = σ l a b2 c none ∧ Ex H H' ∧ LinesAt H H' l as (La ++ Lb ++ Lc.take i)) ?_ ?_ ?_ ?_
    · intro H3 e3
      refine ⟨as2, a2, none, rfl, e2.trans e3, ?_⟩
      have := M2.ext e3
      simpa using this
    · rintro i τ H' _ ⟨_, _, _, _, e3, _⟩
      exact e3
    · rintro i v τ H3 H' hi ⟨as, a, c, rfl, e3, M⟩ ⟨N, u, o, rfl, hN, rfl, hu1, ho1⟩
      have hfi : x.facts[i]? = some x.facts[i] := List.getElem?_eq_getElem hi
      obtain ⟨k, hk1, hk2⟩ := T.fks.get hfi
      have hu3 : (txts (Pn16.names x.facts))[i]? = some (.str (S (x.facts[i]).1)) := by
        unfold Pn16.names txts
        rw [List.map_map, List.getElem?_map, hfi] <;> rfl
      have ho3 : (A.fks.map V.ref)[i]? = some (.ref k) := by
        rw [List.getElem?_map, hk1] <;> rfl
      have hu2 : (txts (Pn16.names x.facts))[i]? = some u := hu1
      have ho2 : (A.fks.map V.ref)[i]? = some o := ho1
      rw [hu3] at hu2
      rw [ho3] at ho2
      cases hu2
      cases ho2
      refine g_pair (K := K) upd_same ?_
      have zl := M.each.length
      have hl1 : La.length = x.kinds.length := List.length_map _
      rw [List.length_append, List.length_append, hl1, hl2, List.length_take] at zl
      have hf2 := (hx.facts.2.2 _ (List.getElem_mem hi)).2.1
      refine app_line (ws := kFact :: (x.facts[i]).1 :: (x.facts[i]).2.map (kindName x)) (M.ext (Ex.new hN)) (e3.trans (Ex.new hN)) (by omega) rfl ?_ fun as' H4 e4 M4 => ⟨as', _, _, rfl, e4, ?_⟩
      · rw [key_fact]
        refine el_cat (b := k) (xs := [.str (S kFact), .str (S (x.facts[i]).1)]) (ys := txts ((x.facts[i]).2.map (kindName x))) (el_lst2 ev_c (ev_var rfl)) (ev_var rfl) ((e3.trans (Ex.new hN)) _ _ hk2) ?_
        rw [List.length_map, List.length_map]
        simp
        omega
      · have hL : Lc[i]? = some (kFact :: (x.facts[i]).1 :: (x.facts[i]).2.map (kindName x)) := by
          show (x.facts.map fun f => kFact :: f.1 :: f.2.map (kindName x))[i]? = _
          rw [List.getElem?_map, hfi] <;> rfl
        rw [take_succ hL, ← List.append_assoc]
        exact M4
    rintro τ H3 ⟨as3, a3, c3, rfl, e3, M3⟩
    have hl3 : Lc.length = x.facts.length := List.length_map _
    rw [← hl3, List.take_length] at M3
    have hl1 : La.length = x.kinds.length := List.length_map _
    -- acts
    have hg4 := goes_acts (K := K) T C (σ := σ l a3 b2 c3 none) (ta := tVar 0) (ev_var rfl)
    have hal := T.as.length
    refine q_for hg4 e3 (fun i τ H' => ∃ as d, τ = σ l a3 b2 c3 d ∧ Ex H H' ∧ LinesAt H H' l as (La ++ Lb ++ Lc ++ (x.acts.take i).flatMap (actLines x))) ?_ ?_ ?_ ?_
    · intro H4 e4
      refine ⟨as3, none, rfl, e3.trans e4, ?_⟩
      have := M3.ext e4
      simpa using this
    · rintro i τ H' _ ⟨_, _, _, e4, _⟩
      exact e4
    · rintro i v τ H4 H' hi ⟨as, d, rfl, e4, M⟩ ⟨rfl, hv⟩
      have hai : A.as[i]? = some A.as[i] := List.getElem?_eq_getElem hi
      obtain ⟨s, hs1, hs2⟩ := T.as.geta hai
      rw [List.getElem?_map, hai] at hv
      have ev := Option.some.inj hv
      subst ev
      have hso := hx.acts.2.2 s (List.mem_of_getElem? hs1)
      have zl := M.each.length
      have hac := acts_lines_len hx i
      rw [List.length_append, List.length_append, List.length_append, hl1, hl2, hl3] at zl
      have hsl := actLines_len hso
      refine ext_lines (L2 := actLines x s) M e4 (by omega) (by omega) rfl (ea_cons (ev_var rfl) ea_nil) (fun H5 e5 Q5 q5 => ⟨A.as[i], x, s, rfl, hs2.mono (e4.trans e5), hso, hx, q5⟩) fun as' H5 e5 M5 => ⟨as', _, rfl, e5, ?_⟩
      rw [take_succ hs1, List.flatMap_append, ← List.append_assoc]
      simpa using M5
    rintro τ H4 ⟨as4, d4, rfl, e4, M4⟩
    rw [hal, List.take_length] at M4
    have hac := acts_lines_len hx x.acts.length
    rw [List.take_length] at hac
    have zl4 := M4.each.length
    rw [List.length_append, List.length_append, List.length_append, hl1, hl2, hl3] at zl4
    -- what's said
    have said : ∀ {H' : Hp} {ts : List Addr} {fs : List (Nat × List Nat)}, Ex H H' → P2 (fun a f => H a = some (.tup (txts (saidWords x f)))) ts fs → P2 (fun t r => SqT K H' t (txts r)) ts (fs.map (saidWords x)) := fun e h => by
      induction h with
      | nil => exact .nil
      | cons r t ih => exact .cons (st_of (e _ _ r)) ih
    have sh : ∀ {fs : List (Nat × List Nat)}, (∀ f ∈ fs, SaidOk x f) → ∀ r ∈ fs.map (saidWords x), r.length ≤ 100 := fun h r hr => by
      obtain ⟨m, hm, rfl⟩ := List.mem_map.mp hr
      have := said_two hx (h m hm)
      unfold saidWords
      rw [List.length_cons, List.length_map]
      omega
    have T4 := T.mono e4
    refine q_extLines (LM := (x.now.map (saidWords x)).map fun r => kNow :: r) M4 e4 (by omega) (by rw [List.length_map, List.length_map]; omega) rfl (vs := [.str (S kNow), .ref A.nw]) (ea_cons (by rw [key_now]; exact ev_c) (ea_cons (ev_now T4 C (ev_var rfl)) ea_nil)) (fun H5 e5 Q5 q5 => ⟨kNow, A.nw, A.ns, x.now.map (saidWords x), rfl, sq_of ((e4.trans e5) _ _ T.now), said (e4.trans e5) T.ns, by rw [List.length_map]; omega, sh hx.now.2, q5⟩) fun as5 H5 e5 M5 => ?_
    have T5 := T.mono e5
    have zl5 := M5.each.length
    rw [List.length_append, List.length_map, List.length_map, List.length_append, List.length_append, List.length_append, hl1, hl2, hl3] at zl5
    refine q_extLines (LM := (x.want.map (saidWords x)).map fun r => kWant :: r) M5 e5 (by omega) (by rw [List.length_map, List.length_map]; omega) rfl (vs := [.str (S kWant), .ref A.wt]) (ea_cons (by rw [key_want]; exact ev_c) (ea_cons (ev_want T5 C (ev_var rfl)) ea_nil)) (fun H6 e6 Q6 q6 => ⟨kWant, A.wt, A.ws, x.want.map (saidWords x), rfl, sq_of ((e5.trans e6) _ _ T.want), said (e5.trans e6) T.ws, by rw [List.length_map]; omega, sh hx.want.2, q6⟩) fun as6 H6 e6 M6 => ?_
    refine s_ret (ev_var rfl) fun H7 e7 => q l as6 H7 (e6.trans e7) ?_
    have e : formLines x = La ++ Lb ++ Lc ++ x.acts.flatMap (actLines x) ++ ((x.now.map (saidWords x)).map fun r => kNow :: r) ++ ((x.want.map (saidWords x)).map fun r => kWant :: r) := by
      unfold formLines
      rw [List.map_map, List.map_map] <;> rfl
    rw [e]
    exact M6.ext e7
end
end KP
set_option Elab.async false
set_option linter.all false
set_option maxRecDepth 100000
set_option maxHeartbeats 400000
namespace KP
open PySem PySem.Spec PyProof.Rows L2 Evl
section
variable {K : PySem.W.Frag} {mg : Str → Option Value} {P : Program} {w : World} {base : Heap} {CT CA dR dC dM tO : Addr}
abbrev s_one_form : Stmt := top 60
theorem sc_one_form : FnScope ["text", "row", "words"] ["text"] (defScope s_one_form) := ⟨rfl, rfl, rfl, by decide +kernel, rfl, by decide +kernel, by decide +kernel⟩
def sp_one_form (CT CA : Addr) : Sp := fun vs H Q _ => ∃ (A : TextA) (x : Pn16.Text), vs = [.ref A.a] ∧ TextAt CT CA H A x ∧ TextOk x ∧ ∀ l H2, H l = none → Ex H H2 → H2 l = some (.lst (bytesV (Pn16.print x))) → Q (.ref l) H2
theorem flat_len {LL : List (List (List Nat))} (h : ∀ ws ∈ LL, Short ws) : (LL.flatMap Pn16.line).length ≤ 64 * LL.length := by
  induction LL with
  | nil => simp
  | cons a l ih =>
    rw [List.flatMap_cons, List.length_append, List.length_cons]
    have h1 := short_line (h a (List.mem_cons_self ..))
    have h2 := ih fun ws hw => h ws (List.mem_cons_of_mem _ hw)
    omega
theorem print_len {x : Pn16.Text} (hx : TextOk x) : (Pn16.print x).length ≤ 12800 := by
  rw [← print_is]
  have h1 := flat_len (lines_short hx)
  have h2 := formLines_len hx
  omega
theorem has_one_form {f : Addr} {fd : FuncData} (F : Fun K "one_form" "one_form" s_one_form f fd) (O : Own mg) (g : mg "one_form" = some (.ref f)) (h_form_lines : Has P w K mg base 3 "form_lines" ["text"] (sp_form_lines CT CA)) (h_line_bytes : Has P w K mg base 1 "line_bytes" ["words"] (sp_line_bytes K)) : Has P w K mg base 4 "one_form" ["text"] (sp_one_form CT CA) := by
  refine ⟨f, fd, F.ok sc_one_form (fun vs H Q E h => ?_) (fun cdv A outer s H vs Q E hr h => ?_), g, F.kp, F.binds fun _ _ _ _ _ _ us hl => match us, hl with | [_], _ => rfl⟩
  · obtain ⟨_, _, rfl, _⟩ := h
    rfl
  · obtain ⟨A, x, rfl, T, hx, q⟩ := h
    refine ⟨_, (pss_cons (ps_set (i := 1) sc_one_form.nd rfl (Or.inl rfl) (pe_lst pa_nil))
      (pss_cons (ps_for PassesOwn.never rfl (pi_list (pe_own h_form_lines (hr.mono (by decide)) rfl (pa_cons (pv 0) pa_nil))) (pg_name (i := 2) sc_one_form.nd rfl (Or.inl rfl)) (pss_one (ps_expr (pe_bm PySem.F.plainAttrs_list PySem.F.slot_list_extend PySem.F.type_list_extend mt_extend (pv 1) (pa_cons (pe_own h_line_bytes (hr.mono (by decide)) rfl (pa_cons (pv 2) pa_nil)) pa_nil)))))
      (pss_one (ps_ret (pv 1))))), ?_⟩
    refine ⟨Nat.zero_le _, fun r hr0 => ?_⟩
    have er : Ex H (upd H r (.lst [])) := Ex.new hr0
    -- for words in form_lines(text)
    refine ⟨_, rfl, A, x, rfl, T.mono er, hx, fun l as H1 e1 L => ⟨l, rfl, ⟨_, sq_of L.lst⟩, ?_⟩⟩
    have hrl := L.notMem (upd_same (H := H) (a := r) (o := .lst []))
    have zl := L.each.length
    have zf := formLines_len hx
    have w2 := walk_list (K := K) (a := l) (xs := as.map V.ref)
    rw [List.length_map] at w2
    have short := lines_short hx
    have bnd : ∀ i, (((formLines x).take i).flatMap Pn16.line).length ≤ 12800 := fun i => by
      have h1 := flat_len (LL := (formLines x).take i) fun ws hw => short ws (List.mem_of_mem_take hw)
      have h2 : ((formLines x).take i).length ≤ 200 := by rw [List.length_take]; omega
      omega
    refine for_it w2 (fun i σ H' => ∃ y, σ = [some (.ref A.a), some (.ref r), y] ∧ Ex H H' ∧ LinesAt (upd H r (.lst [])) H' l as (formLines x) ∧ H' r = some (.lst (bytesV (((formLines x).take i).flatMap Pn16.line)))) ?_ ?_ ?_ ?_
    · exact ⟨none, rfl, er.trans e1, L, e1 _ _ upd_same⟩
    · rintro i σ' H' _ ⟨_, _, _, L', _⟩
      exact sq_of L'.lst
    · rintro i v σ' H2 H' hi ⟨y, rfl, e2, L', h2⟩ ⟨rfl, hv⟩
      have hai : as[i]? = some as[i] := List.getElem?_eq_getElem hi
      obtain ⟨ws, hw1, hw2⟩ := L'.each.geta hai
      rw [List.getElem?_map, hai] at hv
      have ev := Option.some.inj hv
      subst ev
      have sh := short ws (List.mem_of_getElem? hw1)
      have hsum := short_sum sh
      refine ⟨_, rfl, .inl ⟨rfl, _, sq_of h2⟩, _, rfl, as[i], ws, rfl, sq_of hw2.2, sh.1, by omega, fun p H3 hp e3 h3 => ?_⟩
      refine ⟨r, p, _, _, rfl, rfl, e3 _ _ h2, h3, ?_, _, rfl, Ex.mut (e2.trans e3) hr0, (L'.ext e3).keep hrl.2 hrl.1, ?_⟩
      · have h1 := bnd i
        have h4 := short_line sh
        rw [List.length_map, List.length_map]
        exact sz_of (by omega)
      · rw [upd_same, take_succ hw1, List.flatMap_append]
        unfold bytesV
        rw [List.map_append]
        simp
    · rintro σ' H2 ⟨y, rfl, e2, L', h2⟩
      rw [zl, List.take_length, print_is] at h2
      exact s_ret (ev_var rfl) fun H3 e3 => q r H3 hr0 (e2.trans e3) (e3 _ _ h2)
end
end KP
set_option Elab.async false
set_option linter.all false
set_option maxRecDepth 100000
set_option maxHeartbeats 400000
/-! told.py: a text that grows. -/
namespace KP
open PySem PySem.Spec PyProof.Rows L2 Evl
/-! ### what is new since H0 -/
def nu (H0 H : Hp) : Hp := fun b => match H0 b with
  | none => H b
  | some _ => none
section
variable {H0 H H' : Hp} {b l : Addr} {o : HO}
theorem nu_new (h : H0 b = none) : nu H0 H b = H b := by unfold nu; rw [h]
theorem nu_old {u : HO} (h : H0 b = some u) : nu H0 H b = none := by unfold nu; rw [h]
theorem nu_some (h : nu H0 H b = some o) : H0 b = none ∧ H b = some o := by
  cases e : H0 b with
  | none => exact ⟨rfl, by rw [nu_new e] at h; exact h⟩
  | some u =>
    rw [nu_old e] at h
    cases h
theorem nu_sub : Ex (nu H0 H) H := fun _ _ h => (nu_some h).2
theorem nu_ext (e : Ex H H') : Ex (nu H0 H) (nu H0 H') := fun b o h => by
  obtain ⟨h1, h2⟩ := nu_some h
  rw [nu_new h1]
  exact e _ _ h2
theorem nu_upd (h : H0 l = none) : nu H0 (upd H l o) = upd (nu H0 H) l o := by
  funext b
  by_cases e : b = l
  · subst e
    rw [nu_new h, upd_same, upd_same]
  · rw [upd_ne e]
    cases e0 : H0 b with
    | none => rw [nu_new e0, nu_new e0, upd_ne e]
    | some u => rw [nu_old e0, nu_old e0]
end
def ActA.lists (B : ActA) : List Addr := [B.p, B.q, B.l0, B.l1, B.l2, B.l3]
def TextA.heads (A : TextA) : List Addr := [A.k, A.t, A.tk, A.f, A.fk, A.ac, A.nw, A.wt]
/-- the text's own lists -/
def TextA.lists (A : TextA) : List Addr := A.heads ++ (A.fks ++ A.as.flatMap ActA.lists)
section
variable {CT CA : Addr} {N N' : Hp} {A : TextA} {x y : Pn16.Text} {l : Addr} {ys : List V}
/-- the list at l is another one, all else stands -/
structure Kept (N N' : Hp) (l : Addr) : Prop where
  was : ∃ ys, N l = some (.lst ys)
  keep : ∀ b o, N b = some o → b ≠ l → N' b = some o
theorem Kept.lst {b : Addr} {xs : List V} (k : Kept N N' l) (h : N b = some (.lst xs)) (hne : b ≠ l) : N' b = some (.lst xs) := k.keep b _ h hne
theorem Kept.tup {b : Addr} {xs : List V} (k : Kept N N' l) (h : N b = some (.tup xs)) : N' b = some (.tup xs) := by
  obtain ⟨ys, hy⟩ := k.was
  exact k.keep b _ h (ne_of h hy fun z => nomatch z)
theorem Kept.ins {b C dx : Addr} {fs : List (Str × V)} (k : Kept N N' l) (h : N b = some (.ins C dx fs)) : N' b = some (.ins C dx fs) := by
  obtain ⟨ys, hy⟩ := k.was
  exact k.keep b _ h (ne_of h hy fun z => nomatch z)
theorem Kept.dct {b : Addr} {kvs : List (Key × V)} (k : Kept N N' l) (h : N b = some (.dK kvs)) : N' b = some (.dK kvs) := by
  obtain ⟨ys, hy⟩ := k.was
  exact k.keep b _ h (ne_of h hy fun z => nomatch z)
theorem Kept.claims {s : Pn16.Schema} {c : Addr} {ts : List Addr} {ls : List Pn16.Lit} (k : Kept N N' l) (h : ClaimsAt N x s c ts ls) (hne : c ≠ l) : ClaimsAt N' x s c ts ls := ⟨k.lst h.1 hne, h.2.mono fun _ _ z => k.tup z⟩
theorem Kept.act {B : ActA} {s : Pn16.Schema} (k : Kept N N' l) (h : ActAt CA N x B s) (hn : l ∉ B.lists) : ActAt CA N' x B s := by
  have hb : ∀ b ∈ B.lists, b ≠ l := fun b hm e => hn (e ▸ hm)
  refine ⟨k.ins h.ins, k.lst h.places (hb _ (by simp [ActA.lists])), k.lst h.kinds (hb _ (by simp [ActA.lists])), k.dct h.dict, k.claims h.needs (hb _ (by simp [ActA.lists])), k.claims h.bars (hb _ (by simp [ActA.lists])), k.claims h.brings (hb _ (by simp [ActA.lists])), k.claims h.takes (hb _ (by simp [ActA.lists]))⟩
theorem Kept.acts {as : List ActA} {bs : List Pn16.Schema} (k : Kept N N' l) (h : P2 (ActAt CA N x) as bs) (hn : l ∉ as.flatMap ActA.lists) : P2 (ActAt CA N' x) as bs := h.mono' fun B hB s _ z => k.act z fun hm => hn (List.mem_flatMap.mpr ⟨B, hB, hm⟩)
theorem Kept.fks {as : List Addr} {bs : List (Pn16.Bytes × List Nat)} (k : Kept N N' l) (h : P2 (fun a (f : Pn16.Bytes × List Nat) => N a = some (.lst (txts (f.2.map (kindName x))))) as bs) (hn : l ∉ as) : P2 (fun a (f : Pn16.Bytes × List Nat) => N' a = some (.lst (txts (f.2.map (kindName x))))) as bs := h.mono' fun a ha f _ z => k.lst z fun e => hn (e ▸ ha)
theorem Kept.said {as : List Addr} {bs : List (Nat × List Nat)} (k : Kept N N' l) (h : P2 (fun a f => N a = some (.tup (txts (saidWords x f)))) as bs) : P2 (fun a f => N' a = some (.tup (txts (saidWords x f)))) as bs := h.mono fun _ _ z => k.tup z
/-! ### a text with more in it: what was said of the old one -/
theorem more_thingKinds (M : More x y) (hx : TextOk x) : x.things.map (fun t => kindName y t.2) = x.things.map fun t => kindName x t.2 := List.map_congr_left fun t ht => M.kindName (hx.things.2.2 t ht).2
theorem more_actAt (M : More x y) {B : ActA} {s : Pn16.Schema} (hs : ActOk x s) (h : ActAt CA N x B s) : ActAt CA N y B s := by
  have cl : ∀ {c : Addr} {ts : List Addr} {ls : List Pn16.Lit}, (∀ q ∈ ls, LitOk x s q) → ClaimsAt N x s c ts ls → ClaimsAt N y s c ts ls := fun hl h => ⟨h.1, h.2.mono' fun t _ q hq z => by rw [M.litWords (hl q hq)]; exact z⟩
  refine ⟨h.ins, h.places, ?_, h.dict, cl hs.needs.2 h.needs, cl hs.bars.2 h.bars, cl hs.brings.2 h.brings, cl hs.takes.2 h.takes⟩
  rw [show s.places.map (fun p => kindName y p.2) = s.places.map fun p => kindName x p.2 from List.map_congr_left fun p hp => M.kindName (hs.places p hp).2]
  exact h.kinds
theorem more_actsAt (M : More x y) {as : List ActA} {bs : List Pn16.Schema} (hb : ∀ s ∈ bs, ActOk x s) (h : P2 (ActAt CA N x) as bs) : P2 (ActAt CA N y) as bs := h.mono' fun B _ s hs z => more_actAt M (hb s hs) z
theorem more_fksAt (M : More x y) {as : List Addr} {bs : List (Pn16.Bytes × List Nat)} (hb : ∀ f ∈ bs, ∀ k ∈ f.2, k < x.kinds.length) (h : P2 (fun a (f : Pn16.Bytes × List Nat) => N a = some (.lst (txts (f.2.map (kindName x))))) as bs) : P2 (fun a (f : Pn16.Bytes × List Nat) => N a = some (.lst (txts (f.2.map (kindName y))))) as bs := h.mono' fun a _ f hf z => by
  rw [show f.2.map (kindName y) = f.2.map (kindName x) from List.map_congr_left fun k hk => M.kindName (hb f hf k hk)]
  exact z
theorem more_saidAt (M : More x y) {as : List Addr} {bs : List (Nat × List Nat)} (hb : ∀ f ∈ bs, SaidOk x f) (h : P2 (fun a f => N a = some (.tup (txts (saidWords x f)))) as bs) : P2 (fun a f => N a = some (.tup (txts (saidWords y f)))) as bs := h.mono' fun a _ f hf z => by
  rw [M.saidWords (hb f hf)]
  exact z
/-! ### apart -/
structure Apart (A : TextA) : Prop where
  k : A.k ∉ [A.t, A.tk, A.f, A.fk, A.ac, A.nw, A.wt] ∧ A.k ∉ A.fks ∧ A.k ∉ A.as.flatMap ActA.lists
  t : A.t ∉ [A.k, A.tk, A.f, A.fk, A.ac, A.nw, A.wt] ∧ A.t ∉ A.fks ∧ A.t ∉ A.as.flatMap ActA.lists
  tk : A.tk ∉ [A.k, A.t, A.f, A.fk, A.ac, A.nw, A.wt] ∧ A.tk ∉ A.fks ∧ A.tk ∉ A.as.flatMap ActA.lists
  f : A.f ∉ [A.k, A.t, A.tk, A.fk, A.ac, A.nw, A.wt] ∧ A.f ∉ A.fks ∧ A.f ∉ A.as.flatMap ActA.lists
  fk : A.fk ∉ [A.k, A.t, A.tk, A.f, A.ac, A.nw, A.wt] ∧ A.fk ∉ A.fks ∧ A.fk ∉ A.as.flatMap ActA.lists
  ac : A.ac ∉ [A.k, A.t, A.tk, A.f, A.fk, A.nw, A.wt] ∧ A.ac ∉ A.fks ∧ A.ac ∉ A.as.flatMap ActA.lists
  nw : A.nw ∉ [A.k, A.t, A.tk, A.f, A.fk, A.ac, A.wt] ∧ A.nw ∉ A.fks ∧ A.nw ∉ A.as.flatMap ActA.lists
  wt : A.wt ∉ [A.k, A.t, A.tk, A.f, A.fk, A.ac, A.nw] ∧ A.wt ∉ A.fks ∧ A.wt ∉ A.as.flatMap ActA.lists
theorem apart_of (nd : A.lists.Nodup) : Apart A := by
  have nd' := nd
  unfold TextA.lists TextA.heads at nd'
  simp only [List.cons_append, List.nil_append, List.nodup_cons, List.mem_cons, List.mem_append, not_or] at nd'
  obtain ⟨⟨a1, a2, a3, a4, a5, a6, a7, a8, a9⟩, ⟨b2, b3, b4, b5, b6, b7, b8, b9⟩, ⟨c3, c4, c5, c6, c7, c8, c9⟩, ⟨d4, d5, d6, d7, d8, d9⟩, ⟨e5, e6, e7, e8, e9⟩, ⟨f6, f7, f8, f9⟩, ⟨g7, g8, g9⟩, ⟨h8, h9⟩, _⟩ := nd'
  have s : ∀ {a b : Addr}, ¬ a = b → ¬ b = a := fun h e => h e.symm
  constructor
  · exact ⟨by simp [a1, a2, a3, a4, a5, a6, a7], a8, a9⟩
  · exact ⟨by simp [s a1, b2, b3, b4, b5, b6, b7], b8, b9⟩
  · exact ⟨by simp [s a2, s b2, c3, c4, c5, c6, c7], c8, c9⟩
  · exact ⟨by simp [s a3, s b3, s c3, d4, d5, d6, d7], d8, d9⟩
  · exact ⟨by simp [s a4, s b4, s c4, s d4, e5, e6, e7], e8, e9⟩
  · exact ⟨by simp [s a5, s b5, s c5, s d5, s e5, f6, f7], f8, f9⟩
  · exact ⟨by simp [s a6, s b6, s c6, s d6, s e6, s f6, g7], g8, g9⟩
  · exact ⟨by simp [s a7, s b7, s c7, s d7, s e7, s f7, s g7], h8, h9⟩
theorem ne_mem {a b : Addr} {l : List Addr} (h : a ∉ l) (hb : b ∈ l) : b ≠ a := fun e => h (e ▸ hb)
end
end KP
set_option Elab.async false
set_option linter.all false
set_option maxRecDepth 100000
set_option maxHeartbeats 400000
namespace KP
open PySem PySem.Spec PyProof.Rows L2 Evl
section
variable {CT CA : Addr} {N N1 N' : Hp} {A : TextA} {x : Pn16.Text}
theorem grow_kind {n : Pn16.Bytes} (T : TextAt CT CA N A x) (ap : Apart A) (hx : TextOk x) (k : Kept N N' A.k) (h : N' A.k = some (.lst (txts (x.kinds ++ [n])))) : TextAt CT CA N' A { x with kinds := x.kinds ++ [n] } := by
  have M : More x { x with kinds := x.kinds ++ [n] } := ⟨⟨[n], rfl⟩, ⟨[], by simp⟩, ⟨[], by simp⟩⟩
  obtain ⟨a1, a2, a3⟩ := ap.k
  have ne : ∀ {b}, b ∈ [A.t, A.tk, A.f, A.fk, A.ac, A.nw, A.wt] → b ≠ A.k := fun hb => ne_mem a1 hb
  refine ⟨k.ins T.ins, h, k.lst T.things (ne (by simp)), ?_, k.lst T.facts (ne (by simp)), k.lst T.factKinds (ne (by simp)), more_fksAt M (fun f hf => (hx.facts.2.2 f hf).2.2) (k.fks T.fks a2), k.lst T.acts (ne (by simp)), more_actsAt M hx.acts.2.2 (k.acts T.as a3), k.lst T.now (ne (by simp)), more_saidAt M hx.now.2 (k.said T.ns), k.lst T.want (ne (by simp)), more_saidAt M hx.want.2 (k.said T.ws)⟩
  show N' A.tk = some (.lst (txts (x.things.map fun t => kindName _ t.2)))
  rw [more_thingKinds M hx]
  exact k.lst T.thingKinds (ne (by simp))
theorem grow_thing {n : Pn16.Bytes} {i : Nat} (T : TextAt CT CA N A x) (ap : Apart A) (hx : TextOk x) (k1 : Kept N N1 A.t) (k2 : Kept N1 N' A.tk) (h1 : N1 A.t = some (.lst (txts (Pn16.names x.things ++ [n])))) (h2 : N' A.tk = some (.lst (txts ((x.things.map fun t => kindName x t.2) ++ [kindName x i])))) : TextAt CT CA N' A { x with things := x.things ++ [(n, i)] } := by
  have M : More x { x with things := x.things ++ [(n, i)] } := ⟨⟨[], by simp⟩, ⟨[(n, i)], rfl⟩, ⟨[], by simp⟩⟩
  obtain ⟨a1, a2, a3⟩ := ap.t
  obtain ⟨b1, b2, b3⟩ := ap.tk
  have st : ∀ {b xs}, N b = some (.lst xs) → b ∈ [A.k, A.f, A.fk, A.ac, A.nw, A.wt] → N' b = some (.lst xs) := fun hb hm => k2.lst (k1.lst hb (ne_mem a1 (by simp only [List.mem_cons, List.not_mem_nil, or_false] at hm ⊢; rcases hm with e | e | e | e | e | e <;> simp [e]))) (ne_mem b1 (by simp only [List.mem_cons, List.not_mem_nil, or_false] at hm ⊢; rcases hm with e | e | e | e | e | e <;> simp [e]))
  refine ⟨k2.ins (k1.ins T.ins), st T.kinds (by simp), ?_, ?_, st T.facts (by simp), st T.factKinds (by simp), more_fksAt M (fun f hf => (hx.facts.2.2 f hf).2.2) (k2.fks (k1.fks T.fks a2) b2), st T.acts (by simp), more_actsAt M hx.acts.2.2 (k2.acts (k1.acts T.as a3) b3), st T.now (by simp), more_saidAt M hx.now.2 (k2.said (k1.said T.ns)), st T.want (by simp), more_saidAt M hx.want.2 (k2.said (k1.said T.ws))⟩
  · show N' A.t = some (.lst (txts (Pn16.names (x.things ++ [(n, i)]))))
    rw [names_snoc]
    exact k2.lst h1 (ne_mem b1 (by simp))
  · show N' A.tk = some (.lst (txts ((x.things ++ [(n, i)]).map fun t => kindName x t.2)))
    rw [List.map_append]
    exact h2
theorem grow_fact {n : Pn16.Bytes} {ks : List Nat} {p : Addr} (T : TextAt CT CA N A x) (ap : Apart A) (hx : TextOk x) (k1 : Kept N N1 A.f) (k2 : Kept N1 N' A.fk) (h1 : N1 A.f = some (.lst (txts (Pn16.names x.facts ++ [n])))) (h2 : N' A.fk = some (.lst (A.fks.map V.ref ++ [.ref p]))) (hp : N' p = some (.lst (txts (ks.map (kindName x))))) :
    TextAt CT CA N' { A with fks := A.fks ++ [p] } { x with facts := x.facts ++ [(n, ks)] } := by
  have M : More x { x with facts := x.facts ++ [(n, ks)] } := ⟨⟨[], by simp⟩, ⟨[], by simp⟩, ⟨[(n, ks)], rfl⟩⟩
  obtain ⟨a1, a2, a3⟩ := ap.f
  obtain ⟨b1, b2, b3⟩ := ap.fk
  have st : ∀ {b xs}, N b = some (.lst xs) → b ∈ [A.k, A.t, A.tk, A.ac, A.nw, A.wt] → N' b = some (.lst xs) := fun hb hm => k2.lst (k1.lst hb (ne_mem a1 (by simp only [List.mem_cons, List.not_mem_nil, or_false] at hm ⊢; rcases hm with e | e | e | e | e | e <;> simp [e]))) (ne_mem b1 (by simp only [List.mem_cons, List.not_mem_nil, or_false] at hm ⊢; rcases hm with e | e | e | e | e | e <;> simp [e]))
  refine ⟨k2.ins (k1.ins T.ins), st T.kinds (by simp), st T.things (by simp), st T.thingKinds (by simp), ?_, ?_, ?_, st T.acts (by simp), more_actsAt M hx.acts.2.2 (k2.acts (k1.acts T.as a3) b3), st T.now (by simp), more_saidAt M hx.now.2 (k2.said (k1.said T.ns)), st T.want (by simp), more_saidAt M hx.want.2 (k2.said (k1.said T.ws))⟩
  · show N' A.f = some (.lst (txts (Pn16.names (x.facts ++ [(n, ks)]))))
    rw [names_snoc]
    exact k2.lst h1 (ne_mem b1 (by simp))
  · show N' A.fk = some (.lst ((A.fks ++ [p]).map V.ref))
    rw [List.map_append]
    exact h2
  · exact P2.snoc (R := fun a (f : Pn16.Bytes × List Nat) => N' a = some (.lst (txts (f.2.map (kindName { x with facts := x.facts ++ [(n, ks)] }))))) hp (k2.fks (k1.fks T.fks a2) b2)
theorem grow_act {B : ActA} {s : Pn16.Schema} (T : TextAt CT CA N A x) (ap : Apart A) (k : Kept N N' A.ac) (h : N' A.ac = some (.lst ((A.as.map fun q => V.ref q.b) ++ [.ref B.b]))) (hB : ActAt CA N' x B s) : TextAt CT CA N' { A with as := A.as ++ [B] } { x with acts := x.acts ++ [s] } := by
  obtain ⟨a1, a2, a3⟩ := ap.ac
  have ne : ∀ {b}, b ∈ [A.k, A.t, A.tk, A.f, A.fk, A.nw, A.wt] → b ≠ A.ac := fun hb => ne_mem a1 hb
  have cv : ∀ {C : ActA} {u : Pn16.Schema}, ActAt CA N' x C u → ActAt CA N' { x with acts := x.acts ++ [s] } C u := fun z => ⟨z.ins, z.places, z.kinds, z.dict, z.needs, z.bars, z.brings, z.takes⟩
  refine ⟨k.ins T.ins, k.lst T.kinds (ne (by simp)), k.lst T.things (ne (by simp)), k.lst T.thingKinds (ne (by simp)), k.lst T.facts (ne (by simp)), k.lst T.factKinds (ne (by simp)), k.fks T.fks a2, ?_, ?_, k.lst T.now (ne (by simp)), k.said T.ns, k.lst T.want (ne (by simp)), k.said T.ws⟩
  · show N' A.ac = some (.lst ((A.as ++ [B]).map fun q => V.ref q.b))
    rw [List.map_append]
    exact h
  · exact (((k.acts T.as a3).mono fun _ _ z => cv z)).snoc (cv hB)
theorem grow_now {t : Addr} {f : Nat × List Nat} (T : TextAt CT CA N A x) (ap : Apart A) (k : Kept N N' A.nw) (h : N' A.nw = some (.lst (A.ns.map V.ref ++ [.ref t]))) (ht : N' t = some (.tup (txts (saidWords x f)))) : TextAt CT CA N' { A with ns := A.ns ++ [t] } { x with now := x.now ++ [f] } := by
  obtain ⟨a1, a2, a3⟩ := ap.nw
  have ne : ∀ {b}, b ∈ [A.k, A.t, A.tk, A.f, A.fk, A.ac, A.wt] → b ≠ A.nw := fun hb => ne_mem a1 hb
  have cv : ∀ {C : ActA} {u : Pn16.Schema}, ActAt CA N' x C u → ActAt CA N' { x with now := x.now ++ [f] } C u := fun z => ⟨z.ins, z.places, z.kinds, z.dict, z.needs, z.bars, z.brings, z.takes⟩
  refine ⟨k.ins T.ins, k.lst T.kinds (ne (by simp)), k.lst T.things (ne (by simp)), k.lst T.thingKinds (ne (by simp)), k.lst T.facts (ne (by simp)), k.lst T.factKinds (ne (by simp)), k.fks T.fks a2, k.lst T.acts (ne (by simp)), (k.acts T.as a3).mono fun _ _ z => cv z, ?_, P2.snoc (R := fun a f => N' a = some (.tup (txts (saidWords x f)))) ht (k.said T.ns), k.lst T.want (ne (by simp)), k.said T.ws⟩
  show N' A.nw = some (.lst ((A.ns ++ [t]).map V.ref))
  rw [List.map_append]
  exact h
theorem grow_want {t : Addr} {f : Nat × List Nat} (T : TextAt CT CA N A x) (ap : Apart A) (k : Kept N N' A.wt) (h : N' A.wt = some (.lst (A.ws.map V.ref ++ [.ref t]))) (ht : N' t = some (.tup (txts (saidWords x f)))) : TextAt CT CA N' { A with ws := A.ws ++ [t] } { x with want := x.want ++ [f] } := by
  obtain ⟨a1, a2, a3⟩ := ap.wt
  have ne : ∀ {b}, b ∈ [A.k, A.t, A.tk, A.f, A.fk, A.ac, A.nw] → b ≠ A.wt := fun hb => ne_mem a1 hb
  have cv : ∀ {C : ActA} {u : Pn16.Schema}, ActAt CA N' x C u → ActAt CA N' { x with want := x.want ++ [f] } C u := fun z => ⟨z.ins, z.places, z.kinds, z.dict, z.needs, z.bars, z.brings, z.takes⟩
  refine ⟨k.ins T.ins, k.lst T.kinds (ne (by simp)), k.lst T.things (ne (by simp)), k.lst T.thingKinds (ne (by simp)), k.lst T.facts (ne (by simp)), k.lst T.factKinds (ne (by simp)), k.fks T.fks a2, k.lst T.acts (ne (by simp)), (k.acts T.as a3).mono fun _ _ z => cv z, k.lst T.now (ne (by simp)), k.said T.ns, ?_, P2.snoc (R := fun a f => N' a = some (.tup (txts (saidWords x f)))) ht (k.said T.ws)⟩
  show N' A.wt = some (.lst ((A.ws ++ [t]).map V.ref))
  rw [List.map_append]
  exact h
/-- one more claim of an act -/
def ActA.more (B : ActA) (w : Nat) (t : Addr) : ActA := if w = 0 then { B with t0 := B.t0 ++ [t] } else if w = 1 then { B with t1 := B.t1 ++ [t] } else if w = 2 then { B with t2 := B.t2 ++ [t] } else { B with t3 := B.t3 ++ [t] }
theorem more_b (B : ActA) (w : Nat) (t : Addr) : (B.more w t).b = B.b ∧ (B.more w t).lists = B.lists := by
  unfold ActA.more ActA.lists
  split
  · exact ⟨rfl, rfl⟩
  · split
    · exact ⟨rfl, rfl⟩
    · split <;> exact ⟨rfl, rfl⟩
theorem grow_claim {B : ActA} {s : Pn16.Schema} {w : Nat} {q : Pn16.Lit} {t : Addr} (T : ActAt CA N x B s) (nd : B.lists.Nodup) (k : Kept N N' (B.l w)) (h : N' (B.l w) = some (.lst ((B.ts w).map V.ref ++ [.ref t]))) (ht : N' t = some (.tup (txts (litWords x s q)))) : ActAt CA N' x (B.more w t) (Pn16.addLit w q s) := by
  unfold ActA.lists at nd
  simp only [List.nodup_cons, List.mem_cons, List.not_mem_nil, or_false, not_or] at nd
  obtain ⟨⟨p1, p2, p3, p4, p5⟩, ⟨q2, q3, q4, q5⟩, ⟨r3, r4, r5⟩, ⟨s4, s5⟩, u5, _⟩ := nd
  have sy : ∀ {a b : Addr}, ¬ a = b → b ≠ a := fun h e => h e.symm
  have snoc : ∀ {c : Addr} {ts : List Addr} {ls : List Pn16.Lit}, P2 (fun t q => N t = some (.tup (txts (litWords x s q)))) ts ls → P2 (fun t q => N' t = some (.tup (txts (litWords x s q)))) (ts ++ [t]) (ls ++ [q]) := fun h => P2.snoc (R := fun t q => N' t = some (.tup (txts (litWords x s q)))) ht (h.mono fun _ _ z => k.tup z)
  by_cases w0 : w = 0
  · subst w0
    have h' : N' B.l0 = some (.lst ((B.t0 ++ [t]).map V.ref)) := by rw [List.map_append]; exact h
    exact ⟨k.ins T.ins, k.lst T.places p2, k.lst T.kinds q2, k.dct T.dict, ⟨h', snoc (c := B.l0) T.needs.2⟩, k.claims T.bars (sy r3), k.claims T.brings (sy r4), k.claims T.takes (sy r5)⟩
  by_cases w1 : w = 1
  · subst w1
    have h' : N' B.l1 = some (.lst ((B.t1 ++ [t]).map V.ref)) := by rw [List.map_append]; exact h
    exact ⟨k.ins T.ins, k.lst T.places p3, k.lst T.kinds q3, k.dct T.dict, k.claims T.needs r3, ⟨h', snoc (c := B.l1) T.bars.2⟩, k.claims T.brings (sy s4), k.claims T.takes (sy s5)⟩
  by_cases w2 : w = 2
  · subst w2
    have h' : N' B.l2 = some (.lst ((B.t2 ++ [t]).map V.ref)) := by rw [List.map_append]; exact h
    exact ⟨k.ins T.ins, k.lst T.places p4, k.lst T.kinds q4, k.dct T.dict, k.claims T.needs r4, k.claims T.bars s4, ⟨h', snoc (c := B.l2) T.brings.2⟩, k.claims T.takes (sy u5)⟩
  · have el : B.l w = B.l3 := by unfold ActA.l; rw [if_neg w0, if_neg w1, if_neg w2]
    have et : B.ts w = B.t3 := by unfold ActA.ts; rw [if_neg w0, if_neg w1, if_neg w2]
    have em : B.more w t = { B with t3 := B.t3 ++ [t] } := by unfold ActA.more; rw [if_neg w0, if_neg w1, if_neg w2]
    have ea : Pn16.addLit w q s = { s with takes := s.takes ++ [q] } := by unfold Pn16.addLit; rw [if_neg w0, if_neg w1, if_neg w2]
    rw [el] at k h
    rw [et] at h
    rw [em, ea]
    have h' : N' B.l3 = some (.lst ((B.t3 ++ [t]).map V.ref)) := by rw [List.map_append]; exact h
    exact ⟨k.ins T.ins, k.lst T.places p5, k.lst T.kinds q5, k.dct T.dict, k.claims T.needs r5, k.claims T.bars s5, k.claims T.brings u5, ⟨h', snoc (c := B.l3) T.takes.2⟩⟩
theorem mem_l (B : ActA) (w : Nat) : B.l w ∈ B.lists := by
  unfold ActA.l ActA.lists
  split
  · simp
  · split
    · simp
    · split <;> simp
theorem grow_lit {as' : List ActA} {B : ActA} {pre : List Pn16.Schema} {s : Pn16.Schema} {w : Nat} {q : Pn16.Lit} {t : Addr} (T : TextAt CT CA N A x) (nd : A.lists.Nodup) (eA : A.as = as' ++ [B]) (ex : x.acts = pre ++ [s]) (k : Kept N N' (B.l w)) (h : N' (B.l w) = some (.lst ((B.ts w).map V.ref ++ [.ref t]))) (ht : N' t = some (.tup (txts (litWords x s q)))) :
    TextAt CT CA N' { A with as := as' ++ [B.more w t] } { x with acts := pre ++ [Pn16.addLit w q s] } ∧ ({ A with as := as' ++ [B.more w t] } : TextA).lists = A.lists := by
  have hl := mem_l B w
  have nd' := nd
  unfold TextA.lists at nd'
  rw [eA, List.flatMap_append, List.flatMap_cons, List.flatMap_nil, List.append_nil] at nd'
  rw [List.nodup_append] at nd'
  obtain ⟨n1, n2, n3⟩ := nd'
  rw [List.nodup_append] at n2
  obtain ⟨m1, m2, m3⟩ := n2
  rw [List.nodup_append] at m2
  obtain ⟨o1, o2, o3⟩ := m2
  have nh : ∀ b ∈ A.heads, b ≠ B.l w := fun b hb => n3 b hb (B.l w) (List.mem_append_right _ (List.mem_append_right _ hl))
  have nf : B.l w ∉ A.fks := fun hm => m3 _ hm (B.l w) (List.mem_append_right _ hl) rfl
  have na : B.l w ∉ as'.flatMap ActA.lists := fun hm => o3 _ hm (B.l w) hl rfl
  have hT := T.as
  rw [eA, ex] at hT
  obtain ⟨as2, B2, e2, p2, r2⟩ := P2.last hT
  obtain ⟨e3, e4⟩ : as' = as2 ∧ B = B2 := by
    have := List.append_inj' e2 rfl
    exact ⟨this.1, by simpa using this.2⟩
  subst e3 e4
  have cv : ∀ {C : ActA} {u : Pn16.Schema}, ActAt CA N' x C u → ActAt CA N' { x with acts := pre ++ [Pn16.addLit w q s] } C u := fun z => ⟨z.ins, z.places, z.kinds, z.dict, z.needs, z.bars, z.brings, z.takes⟩
  refine ⟨⟨k.ins T.ins, k.lst T.kinds (nh _ (by simp [TextA.heads])), k.lst T.things (nh _ (by simp [TextA.heads])), k.lst T.thingKinds (nh _ (by simp [TextA.heads])), k.lst T.facts (nh _ (by simp [TextA.heads])), k.lst T.factKinds (nh _ (by simp [TextA.heads])), k.fks T.fks nf, ?_, ?_, k.lst T.now (nh _ (by simp [TextA.heads])), k.said T.ns, k.lst T.want (nh _ (by simp [TextA.heads])), k.said T.ws⟩, ?_⟩
  · show N' A.ac = some (.lst ((as' ++ [B.more w t]).map fun q => V.ref q.b))
    have := k.lst T.acts (nh _ (by simp [TextA.heads]))
    rw [eA, List.map_append] at this
    rw [List.map_append, List.map_cons, (more_b B w t).1]
    exact this
  · exact P2.snoc (cv (grow_claim r2 o2 k h ht)) ((k.acts p2 na).mono fun _ _ z => cv z)
  · unfold TextA.lists
    rw [eA, List.flatMap_append, List.flatMap_append, List.flatMap_cons, List.flatMap_cons, (more_b B w t).2] <;> rfl
end
end KP
set_option Elab.async false
set_option linter.all false
set_option maxRecDepth 100000
set_option maxHeartbeats 400000
/-! told.py: new texts and new acts. -/
namespace KP
open PySem PySem.Spec PyProof.Rows L2 Evl
theorem putF_new {f : Str} {v : V} : ∀ {fs : List (Str × V)} {ns : List Str}, fs.map Prod.fst = ns → f ∉ ns → putF f v fs = fs ++ [(f, v)]
  | [], _, _, _ => rfl
  | (g, u) :: r, [], h, _ => by simp at h
  | (g, u) :: r, n :: ns, h, hn => by
    simp only [List.map_cons, List.cons.injEq] at h
    obtain ⟨rfl, h2⟩ := h
    have hg : ¬ g = f := fun e => hn (by rw [e]; exact List.mem_cons_self ..)
    have ih := putF_new (f := f) (v := v) h2 (fun m => hn (List.mem_cons_of_mem _ m))
    show (if g = f then _ else (g, u) :: putF f v r) = _
    rw [if_neg hg, ih] <;> rfl
/-- p is being built since H0: its fields, its new empty lists -/
structure Built (H0 : Hp) (p C dx : Addr) (H : Hp) (ls : List Addr) (fs : List (Str × V)) : Prop where
  was : H0 p ≠ none
  ins : H p = some (.ins C dx fs)
  lst : ∀ l ∈ ls, H l = some (.lst [])
  new : ∀ l ∈ ls, H0 l = none
  nd : ls.Nodup
  keep : ∀ b o, H0 b = some o → b ≠ p → H b = some o
section
variable {K : PySem.W.Frag} {H0 H : Hp} {p C dx : Addr} {ls : List Addr} {fs : List (Str × V)} {σ : L2.St} {D : Ends} {tz : TS} {f : Str}
theorem Built.start (h : H p = some (.ins C dx [])) : Built H p C dx H [] [] := ⟨(by rw [h]; intro z; cases z), h, fun _ m => (nomatch m), fun _ m => (nomatch m), List.nodup_nil, fun b o e _ => e⟩
theorem Built.more {l : Addr} {ns : List Str} (B : Built H0 p C dx H ls fs) (hl : H l = none) (hn : fs.map Prod.fst = ns) (hf : f ∉ ns) : Built H0 p C dx (upd (upd H l (.lst [])) p (.ins C dx (putF f (.ref l) fs))) (ls ++ [l]) (fs ++ [(f, .ref l)]) := by
  have npl : p ≠ l := ne_of_none B.ins hl
  have l0 : H0 l = none := by
    cases e : H0 l with
    | none => rfl
    | some o =>
      have := B.keep l o e npl.symm
      rw [hl] at this
      cases this
  have nl : l ∉ ls := fun m => by
    have := B.lst l m
    rw [hl] at this
    cases this
  refine ⟨B.was, ?_, ?_, ?_, ?_, fun b o e hb => ?_⟩
  · rw [upd_same, putF_new hn hf]
  · intro q hq
    rcases List.mem_append.mp hq with m | m
    · rw [upd_ne (ne_of (B.lst q m) B.ins fun z => nomatch z), upd_ne (show q ≠ l from fun e => nl (e ▸ m))]
      exact B.lst q m
    · simp at m
      subst m
      rw [upd_ne npl.symm, upd_same]
  · intro q hq
    rcases List.mem_append.mp hq with m | m
    · exact B.new q m
    · simp at m
      subst m
      exact l0
  · exact List.nodup_append.mpr ⟨B.nd, by simp, fun a ha b hb => by
      simp at hb
      subst hb
      exact fun e => nl (e ▸ ha)⟩
  · rw [upd_ne hb, upd_ne (ne_of_none (B.keep b o e hb) hl)]
    exact B.keep b o e hb
/-- self.f = [] -/
theorem s_newl (ns : List Str) (B : Built H0 p C dx H ls fs) (hσ : σ[0]? = some (some (.ref p))) (c : Cls K C) (n : NoAttr K C f) (hn : fs.map Prod.fst = ns) (hs : ns.length < 1000) (hf : f ∉ ns)
    (k : ∀ l H', Built H0 p C dx H' (ls ++ [l]) (fs ++ [(f, .ref l)]) → D.nx σ H') : sFld K (tVar 0) (tLst tNil) f D σ H := by
  refine ⟨Nat.zero_le _, fun l hl => ⟨_, hσ, p, C, dx, fs, rfl, ?_, c, n, by rw [← hn, List.length_map] at hs; exact hs, k l _ (B.more hl hn hf)⟩⟩
  rw [upd_ne (ne_of_none B.ins hl)]
  exact B.ins
theorem q_newl (ns : List Str) (B : Built H0 p C dx H ls fs) (hσ : σ[0]? = some (some (.ref p))) (c : Cls K C) (n : NoAttr K C f) (hn : fs.map Prod.fst = ns) (hs : ns.length < 1000) (hf : f ∉ ns)
    (k : ∀ l H', Built H0 p C dx H' (ls ++ [l]) (fs ++ [(f, .ref l)]) → tz D σ H') : tSeq (sFld K (tVar 0) (tLst tNil) f) tz D σ H := s_newl ns B hσ c n hn hs hf k
/-- self.f = e -/
theorem Built.put {v : V} {ns : List Str} (B : Built H0 p C dx H ls fs) (hn : fs.map Prod.fst = ns) (hf : f ∉ ns) : Built H0 p C dx (upd H p (.ins C dx (putF f v fs))) ls (fs ++ [(f, v)]) :=
  ⟨B.was, by rw [upd_same, putF_new hn hf], fun q m => by rw [upd_ne (ne_of (B.lst q m) B.ins fun z => nomatch z)]; exact B.lst q m, B.new, B.nd, fun b o e hb => by rw [upd_ne hb]; exact B.keep b o e hb⟩
theorem q_newv (ns : List Str) {i : Nat} {v : V} (B : Built H0 p C dx H ls fs) (hσ : σ[0]? = some (some (.ref p))) (hi : σ[i]? = some (some v)) (c : Cls K C) (n : NoAttr K C f) (hn : fs.map Prod.fst = ns) (hs : ns.length < 1000) (hf : f ∉ ns)
    (k : ∀ H', Built H0 p C dx H' ls (fs ++ [(f, v)]) → tz D σ H') : tSeq (sFld K (tVar 0) (tVar i) f) tz D σ H :=
  ⟨_, hi, _, hσ, p, C, dx, fs, rfl, B.ins, c, n, by rw [← hn, List.length_map] at hs; exact hs, k _ (B.put hn hf)⟩
end
section
variable {K : PySem.W.Frag} {mg : Str → Option Value} {P : Program} {w : World} {base : Heap} {CT CA : Addr}
abbrev s_textInit : Stmt := inClass (top 13) 0
theorem sc_textInit : FnScope ["self"] ["self"] (defScope s_textInit) := ⟨rfl, rfl, rfl, by decide +kernel, rfl, by decide +kernel, by decide +kernel⟩
def sp_textInit (CT CA : Addr) : Sp := fun vs H Q _ => ∃ (p dx : Addr), vs = [.ref p] ∧ H p = some (.ins CT dx []) ∧ ∀ (A : TextA) H', A.a = p → TextAt CT CA H' A Pn16.blank → A.lists.Nodup → (∀ l ∈ A.lists, H l = none) → (∀ b o, H b = some o → b ≠ p → H' b = some o) → Q .non H'
theorem ok_textInit {f : Addr} {fd : FuncData} (F : Fun K "__init__" "Text.__init__" s_textInit f fd) (C : Clss K CT CA) : FnOk P w K mg base CX0 1 f fd ["self"] (sp_textInit CT CA) := by
  refine F.ok sc_textInit (fun vs H Q E h => ?_) (fun cdv A outer s H vs Q E hr h => ?_)
  · obtain ⟨p, dx, rfl, _⟩ := h
    rfl
  · obtain ⟨p, dx, rfl, hp, q⟩ := h
    refine ⟨_, (pss_cons (ps_fld (pv 0) (pe_lst pa_nil) rfl)
      (pss_cons (ps_fld (pv 0) (pe_lst pa_nil) rfl)
      (pss_cons (ps_fld (pv 0) (pe_lst pa_nil) rfl)
      (pss_cons (ps_fld (pv 0) (pe_lst pa_nil) rfl)
      (pss_cons (ps_fld (pv 0) (pe_lst pa_nil) rfl)
      (pss_cons (ps_fld (pv 0) (pe_lst pa_nil) rfl)
      (pss_cons (ps_fld (pv 0) (pe_lst pa_nil) rfl)
      (pss_one (ps_fld (pv 0) (pe_lst pa_nil) rfl))))))))), ?_⟩
    refine q_newl [] (Built.start hp) rfl C.t C.tk rfl (by decide) (by decide +kernel) fun k H1 B1 => ?_
    refine q_newl ["kinds"] B1 rfl C.t C.tt rfl (by decide) (by decide +kernel) fun t H2 B2 => ?_
    refine q_newl ["kinds", "things"] B2 rfl C.t C.ttk rfl (by decide) (by decide +kernel) fun tk H3 B3 => ?_
    refine q_newl ["kinds", "things", "thing_kinds"] B3 rfl C.t C.tf rfl (by decide) (by decide +kernel) fun f H4 B4 => ?_
    refine q_newl ["kinds", "things", "thing_kinds", "facts"] B4 rfl C.t C.tfk rfl (by decide) (by decide +kernel) fun fk H5 B5 => ?_
    refine q_newl ["kinds", "things", "thing_kinds", "facts", "fact_kinds"] B5 rfl C.t C.tac rfl (by decide) (by decide +kernel) fun ac H6 B6 => ?_
    refine q_newl ["kinds", "things", "thing_kinds", "facts", "fact_kinds", "acts"] B6 rfl C.t C.tn rfl (by decide) (by decide +kernel) fun nw H7 B7 => ?_
    refine s_newl ["kinds", "things", "thing_kinds", "facts", "fact_kinds", "acts", "now"] B7 rfl C.t C.tw rfl (by decide) (by decide +kernel) fun wt H8 B8 => ?_
    have hl := B8.lst
    refine q ⟨p, dx, k, t, tk, f, fk, ac, nw, wt, [], [], [], []⟩ H8 rfl ?_ ?_ ?_ B8.keep
    · exact ⟨B8.ins, hl _ (by simp), hl _ (by simp), hl _ (by simp), hl _ (by simp), hl _ (by simp), .nil, hl _ (by simp), .nil, hl _ (by simp), .nil, hl _ (by simp), .nil⟩
    · exact B8.nd
    · exact B8.new
abbrev s_actInit : Stmt := inClass (top 12) 0
theorem sc_actInit : FnScope ["self", "name", "cost", "places", "kinds"] ["self", "name", "cost", "places", "kinds"] (defScope s_actInit) := ⟨rfl, rfl, rfl, by decide +kernel, rfl, by decide +kernel, by decide +kernel⟩
def sp_actInit (CA : Addr) : Sp := fun vs H Q _ => ∃ (p dx pl kd : Addr) (n : List Nat) (c : Nat), vs = [.ref p, .str (S n), .int (c : Int), .ref pl, .ref kd] ∧ H p = some (.ins CA dx []) ∧
  ∀ (d l0 l1 l2 l3 : Addr) H', [l0, l1, l2, l3].Nodup → (∀ l ∈ [l0, l1, l2, l3], H l = none ∧ H' l = some (.lst [])) → H' d = some (.dK [(.inr "needs", .ref l0), (.inr "bars", .ref l1), (.inr "brings", .ref l2), (.inr "takes", .ref l3)]) →
    H' p = some (.ins CA dx [("name", .str (S n)), ("cost", .int (c : Int)), ("places", .ref pl), ("kinds", .ref kd), ("claims", .ref d)]) → (∀ b o, H b = some o → b ≠ p → H' b = some o) → Q .non H'
theorem ok_actInit {f : Addr} {fd : FuncData} (F : Fun K "__init__" "Act.__init__" s_actInit f fd) (C : Clss K CT CA) : FnOk P w K mg base CX0 1 f fd ["self", "name", "cost", "places", "kinds"] (sp_actInit CA) := by
  refine F.ok sc_actInit (fun vs H Q E h => ?_) (fun cdv A outer s H vs Q E hr h => ?_)
  · obtain ⟨p, dx, _, _, _, _, rfl, _⟩ := h
    rfl
  · obtain ⟨p, dx, pl, kd, n, c, rfl, hp, q⟩ := h
    refine ⟨_, (pss_cons (ps_fld (pv 0) (pv 1) rfl)
      (pss_cons (ps_fld (pv 0) (pv 2) rfl)
      (pss_cons (ps_fld (pv 0) (pv 3) rfl)
      (pss_cons (ps_fld (pv 0) (pv 4) rfl)
      (pss_one (ps_fld (pv 0) (pe_disp (pps_cons pe_str (pe_lst pa_nil) (pps_cons pe_str (pe_lst pa_nil) (pps_cons pe_str (pe_lst pa_nil) (pps_cons pe_str (pe_lst pa_nil) pps_nil)))) (by rfl) (by rfl) (fun z => by cases z) (by decide)) rfl)))))), ?_⟩
    refine q_newv [] (i := 1) (Built.start hp) rfl rfl C.a C.an rfl (by decide) (by decide +kernel) fun H1 B1 => ?_
    refine q_newv ["name"] (i := 2) B1 rfl rfl C.a C.aco rfl (by decide) (by decide +kernel) fun H2 B2 => ?_
    refine q_newv ["name", "cost"] (i := 3) B2 rfl rfl C.a C.ap rfl (by decide) (by decide +kernel) fun H3 B3 => ?_
    refine q_newv ["name", "cost", "places"] (i := 4) B3 rfl rfl C.a C.ak rfl (by decide) (by decide +kernel) fun H4 B4 => ?_
    intro d hd
    refine ⟨Nat.zero_le _, fun l0 h0 => ⟨Nat.zero_le _, fun l1 h1 => ⟨Nat.zero_le _, fun l2 h2 => ⟨Nat.zero_le _, fun l3 h3 => ?_⟩⟩⟩⟩
    have npd : p ≠ d := ne_of_none B4.ins hd
    have n0 : l0 ≠ d := fun e => by rw [e, upd_same] at h0; cases h0
    have n1 : l1 ≠ l0 := fun e => by rw [e, upd_same] at h1; cases h1
    rw [upd_ne n1] at h1
    have m1 : l1 ≠ d := fun e => by rw [e, upd_same] at h1; cases h1
    have n2 : l2 ≠ l1 := fun e => by rw [e, upd_same] at h2; cases h2
    rw [upd_ne n2] at h2
    have m2 : l2 ≠ l0 := fun e => by rw [e, upd_same] at h2; cases h2
    rw [upd_ne m2] at h2
    have o2 : l2 ≠ d := fun e => by rw [e, upd_same] at h2; cases h2
    have n3 : l3 ≠ l2 := fun e => by rw [e, upd_same] at h3; cases h3
    rw [upd_ne n3] at h3
    have m3 : l3 ≠ l1 := fun e => by rw [e, upd_same] at h3; cases h3
    rw [upd_ne m3] at h3
    have o3 : l3 ≠ l0 := fun e => by rw [e, upd_same] at h3; cases h3
    rw [upd_ne o3] at h3
    have r3 : l3 ≠ d := fun e => by rw [e, upd_same] at h3; cases h3
    rw [upd_ne n0] at h0
    rw [upd_ne m1] at h1
    rw [upd_ne o2] at h2
    rw [upd_ne r3] at h3
    have p0 : p ≠ l0 := ne_of_none B4.ins h0
    have p1 : p ≠ l1 := ne_of_none B4.ins h1
    have p2 : p ≠ l2 := ne_of_none B4.ins h2
    have p3 : p ≠ l3 := ne_of_none B4.ins h3
    refine ⟨by rw [upd_ne r3.symm, upd_ne o2.symm, upd_ne m1.symm, upd_ne n0.symm, upd_same], [(.inr "needs", .ref l0), (.inr "bars", .ref l1), (.inr "brings", .ref l2), (.inr "takes", .ref l3)], rfl, (show 4 ≤ 15 by decide), ?_⟩
    refine ⟨_, rfl, p, CA, dx, _, rfl, by rw [upd_ne npd, upd_ne p3, upd_ne p2, upd_ne p1, upd_ne p0, upd_ne npd]; exact B4.ins, C.a, C.acl, (by show 4 < 1000; decide), ?_⟩
    have old : ∀ {l}, H4 l = none → l ≠ p → H l = none := fun {l} h hne => by
      cases e : H l with
      | none => rfl
      | some o =>
        have := B4.keep l o e hne
        rw [h] at this
        cases this
    refine q d l0 l1 l2 l3 _ ?_ ?_ ?_ ?_ ?_
    · simp [n1.symm, m2.symm, o3.symm, n2.symm, m3.symm, n3.symm]
    · intro l hl
      simp only [List.mem_cons, List.not_mem_nil, or_false] at hl
      rcases hl with rfl | rfl | rfl | rfl
      · exact ⟨old h0 p0.symm, by rw [upd_ne p0.symm, upd_ne n0, upd_ne o3.symm, upd_ne m2.symm, upd_ne n1.symm, upd_same]⟩
      · exact ⟨old h1 p1.symm, by rw [upd_ne p1.symm, upd_ne m1, upd_ne m3.symm, upd_ne n2.symm, upd_same]⟩
      · exact ⟨old h2 p2.symm, by rw [upd_ne p2.symm, upd_ne o2, upd_ne n3.symm, upd_same]⟩
      · exact ⟨old h3 p3.symm, by rw [upd_ne p3.symm, upd_ne r3, upd_same]⟩
    · rw [upd_ne npd.symm, upd_same]
      rfl
    · rw [upd_same, putF_new (ns := ["name", "cost", "places", "kinds"]) rfl (by decide +kernel)]
      rfl
    · intro b o e hb
      have := B4.keep b o e hb
      rw [upd_ne hb, upd_ne (ne_of_none this hd), upd_ne (ne_of_none this h3), upd_ne (ne_of_none this h2), upd_ne (ne_of_none this h1), upd_ne (ne_of_none this h0), upd_ne (ne_of_none this hd)]
      exact this
end
end KP
set_option Elab.async false
set_option linter.all false
set_option maxRecDepth 100000
set_option maxHeartbeats 400000
/-! told.py: tell. -/
namespace KP
open PySem PySem.Spec PyProof.Rows L2 Evl
theorem digit_of {b : Nat} (h : Pn16.isDigit b = true) : ∃ d, d < 10 ∧ b = d + 48 := by
  unfold Pn16.isDigit at h
  simp at h
  exact ⟨b - 48, by omega, by omega⟩
theorem int1 : ∀ a : Nat, a < 10 → intText? (S [a + 48]) = some (a : Int) := by decide +kernel
theorem int2 : ∀ a : Nat, a < 10 → ∀ b : Nat, b < 10 → intText? (S [a + 48, b + 48]) = some ((10 * a + b : Nat) : Int) := by decide +kernel
theorem int3 : ∀ a : Nat, a < 10 → ∀ b : Nat, b < 10 → ∀ c : Nat, c < 10 → intText? (S [a + 48, b + 48, c + 48]) = some ((10 * (10 * a + b) + c : Nat) : Int) := by decide +kernel
theorem cost_int {c : Pn16.Bytes} {n : Nat} (h : Pn16.cost? c = some n) : intText? (S c) = some (n : Int) ∧ (S c).length ≤ 640 := by
  unfold Pn16.cost? at h
  split at h
  · rename_i hc
    obtain ⟨h1, h2, h3, _⟩ := hc
    have hn := Option.some.inj h
    rw [List.all_eq_true] at h3
    match c, h1, h2, h3, hn with
    | [a], _, _, h3, hn =>
      obtain ⟨d, hd, rfl⟩ := digit_of (h3 a (by simp))
      refine ⟨?_, show 1 ≤ 640 by decide⟩
      rw [int1 d hd, ← hn]
      simp
    | [a, b], _, _, h3, hn =>
      obtain ⟨d, hd, rfl⟩ := digit_of (h3 a (by simp))
      obtain ⟨e, he, rfl⟩ := digit_of (h3 b (by simp))
      refine ⟨?_, show 2 ≤ 640 by decide⟩
      rw [int2 d hd e he, ← hn]
      simp
    | [a, b, c], _, _, h3, hn =>
      obtain ⟨d, hd, rfl⟩ := digit_of (h3 a (by simp))
      obtain ⟨e, he, rfl⟩ := digit_of (h3 b (by simp))
      obtain ⟨g, hg, rfl⟩ := digit_of (h3 c (by simp))
      refine ⟨?_, show 3 ≤ 640 by decide⟩
      rw [int3 d hd e he g hg, ← hn]
      simp
    | [], h, _, _, _ => exact absurd rfl h
    | _ :: _ :: _ :: _ :: _, _, h, _, _ => simp at h
  · cases h
theorem pick_names : ∀ {l : List (List Nat)} (a b c : List Nat), (l.length = 0 ∨ l.length = 2 ∨ l.length = 4) → pickV (txts (a :: b :: c :: l)) (some 3) none (some 2) = txts (Pn16.names (Pn16.pairsOf l))
  | [], _, _, _, _ => by with_unfolding_all rfl
  | [_, _], _, _, _, _ => by with_unfolding_all rfl
  | [_, _, _, _], _, _, _, _ => by with_unfolding_all rfl
  | [_], _, _, _, h => by simp at h
  | [_, _, _], _, _, _, h => by simp at h
  | _ :: _ :: _ :: _ :: _ :: _, _, _, _, h => by simp at h
theorem pick_kinds : ∀ {l : List (List Nat)} (a b c : List Nat), (l.length = 0 ∨ l.length = 2 ∨ l.length = 4) → pickV (txts (a :: b :: c :: l)) (some 4) none (some 2) = txts ((Pn16.pairsOf l).map fun p => p.2)
  | [], _, _, _, _ => by with_unfolding_all rfl
  | [_, _], _, _, _, _ => by with_unfolding_all rfl
  | [_, _, _, _], _, _, _, _ => by with_unfolding_all rfl
  | [_], _, _, _, h => by simp at h
  | [_, _, _], _, _, _, h => by simp at h
  | _ :: _ :: _ :: _ :: _ :: _, _, _, _, h => by simp at h
/-! ### an append of a new tuple -/
def EvU (te : TE) (σ : L2.St) (F : Hp) (xs : List V) : Prop := ∀ H1, Ex F H1 → ∀ Q : VK, (∀ p H2, H1 p = none → Ex H1 H2 → H2 p = some (.tup xs) → Q (.ref p) H2) → te σ H1 Q
section
variable {K : PySem.W.Frag} {σ : L2.St} {H : Hp} {ta te : TE} {D : Ends} {l : Addr} {xs ys : List V}
theorem s_appU (h : H l = some (.lst xs)) (ha : Ev ta σ H (.ref l)) (ht : EvU te σ H ys) (hl : xs.length < 100000) (k : ∀ p H1, H p = none → Ex H H1 → H1 p = some (.tup ys) → D.nx σ (upd H1 l (.lst (xs ++ [.ref p])))) : tDrop (tBM K "list" rAppend ta (tCons te tNil)) D σ H :=
  ha H (Ex.refl H) _ fun H1 e1 => ⟨.inl ⟨rfl, _, sq_of (e1 _ _ h)⟩, ht H1 e1 _ fun p H2 hp e2 h2 => ⟨l, xs, .ref p, rfl, rfl, (e1.trans e2) _ _ h, sz_lt (by omega), k p H2 (fresh_back e1 hp) (e1.trans e2) h2⟩⟩
theorem eu_tuple (h : EvL te σ H ys) : EvU (tCB (fun xs H Q => ∃ p ys, xs = [V.ref p] ∧ ((SqL K H p ys ∧ ∀ l, H l = none → Q (.ref l) (upd H l (.tup ys))) ∨ (SqT K H p ys ∧ Q (.ref p) H))) (tCons te tNil)) σ H ys := fun H1 e1 Q q =>
  h H1 e1 _ fun p H2 hp e2 h2 => ⟨p, ys, rfl, .inl ⟨sq_of h2, fun l hl => q l _ (fresh_back e2 hl) (e2.trans (Ex.new hl)) upd_same⟩⟩
theorem kept_upd {H1 : Hp} (h : H l = some (.lst xs)) (e : Ex H H1) : Kept H (upd H1 l (.lst ys)) l := ⟨⟨_, h⟩, fun b o hb hne => by
  rw [upd_ne hne]
  exact e _ _ hb⟩
end
theorem nodup_fks {A : TextA} {p : Addr} (nd : A.lists.Nodup) (hp : p ∉ A.lists) : ({ A with fks := A.fks ++ [p] } : TextA).lists.Nodup := by
  have e : ({ A with fks := A.fks ++ [p] } : TextA).lists = A.heads ++ ((A.fks ++ [p]) ++ A.as.flatMap ActA.lists) := rfl
  have pm : (A.heads ++ ((A.fks ++ [p]) ++ A.as.flatMap ActA.lists)).Perm (p :: A.lists) := by
    unfold TextA.lists
    rw [← List.append_assoc, ← List.append_assoc, ← List.append_assoc]
    refine List.Perm.trans (List.Perm.append_right _ (List.perm_append_comm (l₂ := [p]))) ?_
    exact List.Perm.refl _
  rw [e]
  exact pm.nodup_iff.mpr (List.nodup_cons.mpr ⟨hp, nd⟩)
theorem mem_fks {A : TextA} {p l : Addr} (h : l ∈ ({ A with fks := A.fks ++ [p] } : TextA).lists) : l ∈ A.lists ∨ l = p := by
  have e : ({ A with fks := A.fks ++ [p] } : TextA).lists = A.heads ++ ((A.fks ++ [p]) ++ A.as.flatMap ActA.lists) := rfl
  rw [e] at h
  unfold TextA.lists
  simp only [List.mem_append, List.mem_singleton] at h ⊢
  rcases h with h | (h | h) | h
  · exact .inl (.inl h)
  · exact .inl (.inr (.inl h))
  · exact .inr h
  · exact .inl (.inr (.inr h))
theorem nodup_as {A : TextA} {B : ActA} (nd : A.lists.Nodup) (hB : B.lists.Nodup) (hd : ∀ l ∈ B.lists, l ∉ A.lists) : ({ A with as := A.as ++ [B] } : TextA).lists.Nodup := by
  have e : ({ A with as := A.as ++ [B] } : TextA).lists = A.lists ++ B.lists := by
    show A.heads ++ (A.fks ++ (A.as ++ [B]).flatMap ActA.lists) = _
    unfold TextA.lists
    rw [List.flatMap_append, List.flatMap_cons, List.flatMap_nil, List.append_nil, List.append_assoc, List.append_assoc]
  rw [e]
  exact List.nodup_append.mpr ⟨nd, hB, fun a ha b hb e => hd b hb (e ▸ ha)⟩
theorem mem_as {A : TextA} {B : ActA} {l : Addr} (h : l ∈ ({ A with as := A.as ++ [B] } : TextA).lists) : l ∈ A.lists ∨ l ∈ B.lists := by
  have e : ({ A with as := A.as ++ [B] } : TextA).lists = A.lists ++ B.lists := by
    show A.heads ++ (A.fks ++ (A.as ++ [B]).flatMap ActA.lists) = _
    unfold TextA.lists
    rw [List.flatMap_append, List.flatMap_cons, List.flatMap_nil, List.append_nil, List.append_assoc, List.append_assoc]
  rw [e] at h
  exact List.mem_append.mp h
section
variable {CT CA : Addr} {H : Hp} {A : TextA} {x : Pn16.Text}
/-- the text's lists are there -/
theorem lists_at (T : TextAt CT CA H A x) {l : Addr} (h : l ∈ A.lists) : ∃ xs, H l = some (.lst xs) := by
  unfold TextA.lists TextA.heads at h
  simp only [List.mem_append, List.mem_cons, List.not_mem_nil, or_false, List.mem_flatMap] at h
  rcases h with (rfl | rfl | rfl | rfl | rfl | rfl | rfl | rfl) | h | ⟨B, hB, h⟩
  · exact ⟨_, T.kinds⟩
  · exact ⟨_, T.things⟩
  · exact ⟨_, T.thingKinds⟩
  · exact ⟨_, T.facts⟩
  · exact ⟨_, T.factKinds⟩
  · exact ⟨_, T.acts⟩
  · exact ⟨_, T.now⟩
  · exact ⟨_, T.want⟩
  · obtain ⟨f, _, hf⟩ := T.fks.mem h
    exact ⟨_, hf⟩
  · obtain ⟨s, _, t⟩ := T.as.mem hB
    unfold ActA.lists at h
    simp only [List.mem_cons, List.not_mem_nil, or_false] at h
    rcases h with rfl | rfl | rfl | rfl | rfl | rfl
    · exact ⟨_, t.places⟩
    · exact ⟨_, t.kinds⟩
    · exact ⟨_, t.needs.1⟩
    · exact ⟨_, t.bars.1⟩
    · exact ⟨_, t.brings.1⟩
    · exact ⟨_, t.takes.1⟩
theorem fresh_lists (T : TextAt CT CA H A x) {l : Addr} (h : H l = none) : l ∉ A.lists := fun m => by
  obtain ⟨xs, e⟩ := lists_at T m
  rw [h] at e
  cases e
end
end KP
set_option Elab.async false
set_option linter.all false
set_option maxRecDepth 100000
set_option maxHeartbeats 800000
namespace KP
open PySem PySem.Spec PyProof.Rows L2 Evl
section
variable {K : PySem.W.Frag} {mg : Str → Option Value} {P : Program} {w : World} {base : Heap} {CT CA : Addr}
/-- how an act is made -/
structure Made (P : Program) (w : World) (K : PySem.W.Frag) (mg : Str → Option Value) (base : Heap) (x : Str) (C : Addr) (ps : List Str) (sp : Sp) : Prop where
  ex : ∃ f fd, Mk K C f ∧ FnOk P w K mg base CX0 1 f fd ps sp ∧ Binds K fd ps []
  g : mg x = some (.ref C)
abbrev tIx (K : PySem.W.Frag) (i : Int) : TE := tOp (rIxL K) (tVar 1) (tC (.int i))
abbrev tInt (te : TE) : TE := tCB (fun xs H Q => ∃ a n, xs = [V.str a] ∧ intText? a = some n ∧ a.length ≤ 640 ∧ Q (V.int n) H) (tCons te tNil)
abbrev tS3 (K : PySem.W.Frag) (i j : Int) : TE := tSl3 K (tVar 1) (tPart (tC (.int i))) tNoPart (tPart (tC (.int j)))
theorem act_made {σ : L2.St} {H : Hp} {wl : Addr} {n c : Pn16.Bytes} {l : List Pn16.Bytes} {co : Nat} {ks : List Nat} {x : Pn16.Text} (hσ : σ[1]? = some (some (.ref wl))) (hw : H wl = some (.lst (txts (kAct :: n :: c :: l)))) (hc : Pn16.cost? c = some co) (hl : l.length = 0 ∨ l.length = 2 ∨ l.length = 4) (hk : Pn16.all? (Pn16.indexOf x.kinds) ((Pn16.pairsOf l).map fun p => p.2) = some ks)
    (Q : VK) (q : ∀ B H2, Ex H H2 → (∀ a ∈ B.lists, H a = none) → B.lists.Nodup → ActAt CA H2 x B ⟨n, co, (Pn16.names (Pn16.pairsOf l)).zip ks, [], [], [], []⟩ → Q (.ref B.b) H2) :
    tMake CA (sp_actInit CA) [] E0 (tCons (tIx K 1) (tCons (tInt (tIx K 2)) (tCons (tS3 K 3 2) (tCons (tS3 K 4 2) tNil)))) σ H Q := by
  obtain ⟨i1, i2⟩ := cost_int hc
  obtain ⟨g1, g2, g3⟩ := all_index hk
  have hl2 : (Pn16.pairsOf l).length ≤ 2 := pairs_len hl
  have hlen : (Pn16.names (Pn16.pairsOf l)).length = ks.length := by
    rw [g3]
    simp [Pn16.names]
  have s2 : ∀ {u : List (List Nat)}, u.length ≤ 2 → (txts u).length ≤ sizeLine := fun h => sz_of (by rw [List.length_map]; omega)
  refine ev_txt (K := K) (i := 1) (w := n) (ev_var hσ) ev_c (sq_of hw) rfl H (Ex.refl H) _ fun H1 e1 => ?_
  refine ev_txt (K := K) (F := H) (i := 2) (w := c) (ev_var hσ) ev_c (sq_of hw) rfl H1 e1 _ fun H2 e2 => ⟨S c, co, rfl, i1, i2, ?_⟩
  have e12 := e1.trans e2
  refine ⟨_, hσ, 3, rfl, 2, rfl, wl, _, rfl, sq_of (e12 _ _ hw), by decide, by rw [pick_names _ _ _ hl]; exact s2 (by simpa [Pn16.names] using hl2), fun pl hpl => ?_⟩
  rw [pick_names _ _ _ hl]
  have e3 := e12.trans (Ex.new hpl (o := .lst (txts (Pn16.names (Pn16.pairsOf l)))))
  refine ⟨_, hσ, 4, rfl, 2, rfl, wl, _, rfl, sq_of (e3 _ _ hw), by decide, by rw [pick_kinds _ _ _ hl]; exact s2 (by simpa using hl2), fun kd hkd => ?_⟩
  rw [pick_kinds _ _ _ hl]
  have e4 := e3.trans (Ex.new hkd (o := .lst (txts ((Pn16.pairsOf l).map fun p => p.2))))
  intro a dx ha hdx hne
  have hpk : pl ≠ kd := fun e => by rw [← e, upd_same] at hkd; cases hkd
  have l1 : upd (upd H2 pl (.lst (txts (Pn16.names (Pn16.pairsOf l))))) kd (.lst (txts ((Pn16.pairsOf l).map fun p => p.2))) pl = some (.lst (txts (Pn16.names (Pn16.pairsOf l)))) := by rw [upd_ne hpk, upd_same]
  have l2 : upd (upd H2 pl (.lst (txts (Pn16.names (Pn16.pairsOf l))))) kd (.lst (txts ((Pn16.pairsOf l).map fun p => p.2))) kd = some (.lst (txts ((Pn16.pairsOf l).map fun p => p.2))) := upd_same
  generalize upd (upd H2 pl (.lst (txts (Pn16.names (Pn16.pairsOf l))))) kd (.lst (txts ((Pn16.pairsOf l).map fun p => p.2))) = H4 at ha hdx e4 l1 l2
  have e5 : Ex H4 (upd (upd H4 dx (.own a)) a (.ins CA dx [])) := (Ex.new hdx).trans (Ex.new (by rw [upd_ne hne.symm]; exact ha))
  refine ⟨a, dx, pl, kd, n, co, rfl, upd_same, fun d l0 l1' l2' l3 H6 nd hlst hd hp keep => ⟨rfl, ?_⟩⟩
  have e6 : Ex H4 H6 := fun b o hb => keep b o (e5 _ _ hb) (ne_of_none hb ha)
  have hpl6 := e6 _ _ l1
  have hkd6 := e6 _ _ l2
  have hn : ∀ {b}, b ∈ [l0, l1', l2', l3] → H4 b = none := fun hb => fresh_back e5 (hlst _ hb).1
  refine q ⟨a, dx, pl, kd, d, l0, l1', l2', l3, [], [], [], []⟩ H6 (e4.trans e6) ?_ ?_ ?_
  · intro b hb
    have hb' : b = pl ∨ b = kd ∨ b ∈ [l0, l1', l2', l3] := by
      unfold ActA.lists at hb
      simp only [List.mem_cons, List.not_mem_nil, or_false] at hb ⊢
      exact hb
    rcases hb' with rfl | rfl | hb'
    · exact fresh_back e12 hpl
    · exact fresh_back e3 hkd
    · exact fresh_back e4 (hn hb')
  · have np : ∀ b ∈ [l0, l1', l2', l3], pl ≠ b ∧ kd ≠ b := fun b hb => ⟨ne_of_none l1 (hn hb), ne_of_none l2 (hn hb)⟩
    show (pl :: kd :: [l0, l1', l2', l3]).Nodup
    refine List.nodup_cons.mpr ⟨fun m => ?_, List.nodup_cons.mpr ⟨fun m => (np kd m).2 rfl, nd⟩⟩
    rcases List.mem_cons.mp m with m | m
    · exact hpk m
    · exact (np pl m).1 rfl
  · refine ⟨hp, ?_, ?_, hd, ⟨(hlst _ (by simp)).2, .nil⟩, ⟨(hlst _ (by simp)).2, .nil⟩, ⟨(hlst _ (by simp)).2, .nil⟩, ⟨(hlst _ (by simp)).2, .nil⟩⟩
    · show H6 pl = some (.lst (txts (Pn16.names ((Pn16.names (Pn16.pairsOf l)).zip ks))))
      rw [names_zip hlen]
      exact hpl6
    · show H6 kd = some (.lst (txts (((Pn16.names (Pn16.pairsOf l)).zip ks).map fun p => kindName x p.2)))
      have : ((Pn16.names (Pn16.pairsOf l)).zip ks).map (fun p => kindName x p.2) = (Pn16.pairsOf l).map fun p => p.2 := by
        rw [← g1, show (fun p : Pn16.Bytes × Nat => kindName x p.2) = (kindName x) ∘ Prod.snd from rfl, ← List.map_map, List.map_snd_zip (by omega)]
        rfl
      rw [this]
      exact hkd6
theorem s_appX {σ : L2.St} {H : Hp} {ta te : TE} {D : Ends} {l : Addr} {xs : List V} (h : H l = some (.lst xs)) (ha : Ev ta σ H (.ref l)) (k : ∀ H1, Ex H H1 → te σ H1 fun v H2 => rAppend (.ref l) [v] H2 fun _ H3 => D.nx σ H3) : tDrop (tBM K "list" rAppend ta (tCons te tNil)) D σ H :=
  ha H (Ex.refl H) _ fun H1 e1 => ⟨.inl ⟨rfl, _, sq_of (e1 _ _ h)⟩, k H1 e1⟩
abbrev s_tell : Stmt := top 14
theorem sc_tell : FnScope ["text", "words", "sort"] ["text", "words"] (defScope s_tell) := ⟨rfl, rfl, rfl, by decide +kernel, rfl, by decide +kernel, by decide +kernel⟩
def sp_tell (CT CA : Addr) : Sp := fun vs H Q _ => ∃ (A : TextA) (x y : Pn16.Text) (p : Addr) (ws : List (List Nat)), vs = [.ref A.a, .ref p] ∧ TextAt CT CA H A x ∧ TextOk x ∧ A.lists.Nodup ∧ H p = some (.lst (txts ws)) ∧ p ∉ A.lists ∧ Step x ws y ∧
  ∀ A' H', A'.a = A.a → TextAt CT CA H' A' y → A'.lists.Nodup → (∀ l ∈ A'.lists, l ∈ A.lists ∨ H l = none) → (∀ b o, H b = some o → b ∉ A.lists → H' b = some o) → Q .non H'
theorem has_tell {f : Addr} {fd : FuncData} (F : Fun K "tell" "tell" s_tell f fd) (O : Own mg) (C : Clss K CT CA) (g : mg "tell" = some (.ref f)) (MA : Made P w K mg base "Act" CA ["self", "name", "cost", "places", "kinds"] (sp_actInit CA)) (h_claims_of : Has P w K mg base 1 "claims_of" ["text", "sort"] (sp_claims_of CT CA)) : Has P w K mg base 3 "tell" ["text", "words"] (sp_tell CT CA) := by
  refine ⟨f, fd, F.ok sc_tell (fun vs H Q E h => ?_) (fun cdv A outer s H vs Q E hr h => ?_), g, F.kp, F.binds fun _ _ _ _ _ _ us hl => match us, hl with | [_, _], _ => rfl⟩
  · obtain ⟨_, _, _, _, _, rfl, _⟩ := h
    rfl
  · obtain ⟨A, x, y, p, ws, rfl, T, hx, nd, hp, hpn, st, q⟩ := h
    obtain ⟨fA, fdA, M_Act, G_Act, b_Act⟩ := MA.ex
    refine ⟨_, (pss_cons (ps_set (i := 2) sc_tell.nd rfl (Or.inl rfl) (pe_ix ix_list (pv 1) pe_int (fun _ _ => rfl)))
      (pss_one (ps_if (pt_cmpR op_eq (pv 2) pe_str (nomark _)) (pss_one (ps_expr (pe_bm PySem.F.plainAttrs_list PySem.F.slot_list_append PySem.F.type_list_append mt_append (pe_fld (pv 0) (by rfl)) (pa_cons (pe_ix ix_list (pv 1) pe_int (fun _ _ => rfl)) pa_nil)))) (pss_one (ps_if (pt_cmpR op_eq (pv 2) pe_str (nomark _)) (pss_cons (ps_expr (pe_bm PySem.F.plainAttrs_list PySem.F.slot_list_append PySem.F.type_list_append mt_append (pe_fld (pv 0) (by rfl)) (pa_cons (pe_ix ix_list (pv 1) pe_int (fun _ _ => rfl)) pa_nil)))
      (pss_one (ps_expr (pe_bm PySem.F.plainAttrs_list PySem.F.slot_list_append PySem.F.type_list_append mt_append (pe_fld (pv 0) (by rfl)) (pa_cons (pe_ix ix_list (pv 1) pe_int (fun _ _ => rfl)) pa_nil))))) (pss_one (ps_if (pt_cmpR op_eq (pv 2) pe_str (nomark _)) (pss_cons (ps_expr (pe_bm PySem.F.plainAttrs_list PySem.F.slot_list_append PySem.F.type_list_append mt_append (pe_fld (pv 0) (by rfl)) (pa_cons (pe_ix ix_list (pv 1) pe_int (fun _ _ => rfl)) pa_nil)))
      (pss_one (ps_expr (pe_bm PySem.F.plainAttrs_list PySem.F.slot_list_append PySem.F.type_list_append mt_append (pe_fld (pv 0) (by rfl)) (pa_cons (pe_slice sl_list (pv 1) (po_some pe_int) po_none) pa_nil))))) (pss_one (ps_if (pt_cmpR op_eq (pv 2) pe_str (nomark _)) (pss_one (ps_expr (pe_bm PySem.F.plainAttrs_list PySem.F.slot_list_append PySem.F.type_list_append mt_append (pe_fld (pv 0) (by rfl)) (pa_cons (pe_make M_Act G_Act (hr.mono (by decide)) rfl MA.g b_Act .nil pass0 (pa_cons (pe_ix ix_list (pv 1) pe_int (fun _ _ => rfl)) (pa_cons (pe_callTy call_int_str (by rfl) O.int (by decide +kernel) (pa_cons (pe_ix ix_list (pv 1) pe_int (fun _ _ => rfl)) pa_nil)) (pa_cons (pe_slice3 (pv 1) (po_some pe_int) po_none (po_some pe_int)) (pa_cons (pe_slice3 (pv 1) (po_some pe_int) po_none (po_some pe_int)) pa_nil))))) pa_nil)))) (pss_one (ps_expr (pe_bm PySem.F.plainAttrs_list PySem.F.slot_list_append PySem.F.type_list_append mt_append (pe_own h_claims_of (hr.mono (by decide)) rfl (pa_cons (pv 0) (pa_cons (pv 2) pa_nil))) (pa_cons (pe_callTy call_tuple_of (by rfl) O.tuple (by decide +kernel) (pa_cons (pe_slice sl_list (pv 1) (po_some pe_int) po_none) pa_nil)) pa_nil))))))))))))), ?_⟩
    have ap := apart_of nd
    have txi : ∀ {σ : L2.St} {i : Nat} {v : List Nat} {F : Hp}, σ[1]? = some (some (.ref p)) → F p = some (.lst (txts ws)) → ws[i]? = some v → Ev (tOp (rIxL K) (tVar 1) (tC (.int (i : Nat)))) σ F (.str (S v)) := fun hσ hF hv => ev_txt (K := K) (ev_var hσ) ev_c (sq_of hF) hv
    have rest : ∀ {N N' : Hp} {l : Addr}, Kept N N' l → l ∈ A.lists → ∀ b o, N b = some o → b ∉ A.lists → N' b = some o := fun {N N' l} k hl b o hb hn => k.keep b o hb fun z => hn (by rw [z]; exact hl)
    have inh : ∀ {l}, l ∈ A.heads → l ∈ A.lists := fun h => List.mem_append_left _ h
    have snoc : ∀ (us : List (List Nat)) (v : List Nat), txts us ++ [.str (S v)] = txts (us ++ [v]) := fun us v => by simp [List.map_append]
    have few : ∀ {us : List (List Nat)} {m : Nat}, us.length ≤ m → m < 100000 → (txts us).length < 100000 := fun h h' => by rw [List.length_map]; omega
    cases st with
    | @kind n h1 h2 h3 =>
      refine q_asg (txi (i := 0) rfl hp rfl) fun H0 e0 => ?_
      refine s_if (et_key key_kind (ev_var rfl)) (fun c H1 e1 => ?_) (fun c _ _ => absurd c (by decide))
      have e := e0.trans e1
      have T1 := T.mono e
      refine s_app (K := K) T1.kinds (ev_kinds T1 C (ev_var rfl)) (txi (i := 1) rfl (e _ _ hp) rfl) (few hx.kinds.1 (by decide)) fun H2 e2 => ?_
      have k := kept_upd (ys := txts x.kinds ++ [.str (S n)]) T1.kinds e2
      exact q A _ rfl (grow_kind T1 ap hx k (by rw [upd_same, snoc])) nd (fun l hl => .inl hl) fun b o hb hn => rest k (inh (by simp [TextA.heads])) b o (e _ _ hb) hn
    | @thing n kw i h1 h2 h3 h4 h5 =>
      refine q_asg (txi (i := 0) rfl hp rfl) fun H0 e0 => ?_
      refine s_if (et_key key_kind (ev_var rfl)) (fun c _ _ => absurd c (by decide)) (fun c H1 e1 => ?_)
      refine s_if (et_key key_thing (ev_var rfl)) (fun c H2 e2 => ?_) (fun c _ _ => absurd c (by decide))
      have e := (e0.trans e1).trans e2
      have T1 := T.mono e
      refine q_app (K := K) T1.things (ev_things T1 C (ev_var rfl)) (txi (i := 1) rfl (e _ _ hp) rfl) (few (m := 6) (by simpa [Pn16.names] using hx.things.1) (by decide)) fun H3 e3 => ?_
      have k1 := kept_upd (ys := txts (Pn16.names x.things) ++ [.str (S n)]) T1.things e3
      have hN : upd H3 A.t (.lst (txts (Pn16.names x.things) ++ [.str (S n)])) A.t = some (.lst (txts (Pn16.names x.things ++ [n]))) := by rw [upd_same, snoc]
      generalize upd H3 A.t (.lst (txts (Pn16.names x.things) ++ [.str (S n)])) = N1 at k1 hN
      have ne1 : A.tk ≠ A.t := ne_mem ap.t.1 (by simp)
      have htk := k1.lst T1.thingKinds ne1
      have hins := k1.ins T1.ins
      refine s_app (K := K) htk (ev_fld (ev_var rfl) hins C.t C.ttk ((lk_past (by decide +kernel)).trans ((lk_past (by decide +kernel)).trans lk_here))) (txi (i := 2) rfl (k1.lst (e _ _ hp) fun z => hpn (by rw [z]; exact inh (by simp [TextA.heads]))) rfl) (few (m := 6) (by simpa using hx.things.1) (by decide)) fun H4 e4 => ?_
      have k2 := kept_upd (ys := txts (x.things.map fun t => kindName x t.2) ++ [.str (S kw)]) htk e4
      refine q A _ rfl (grow_thing T1 ap hx k1 k2 hN ?_) nd (fun l hl => .inl hl) fun b o hb hn => rest k2 (inh (by simp [TextA.heads])) b o (rest k1 (inh (by simp [TextA.heads])) b o (e _ _ hb) hn) hn
      rw [upd_same, snoc, show kindName x i = kw from (index_some h4).2.1]
    | @fact n l ks h1 h2 h3 h4 h5 =>
      refine q_asg (txi (i := 0) rfl hp rfl) fun H0 e0 => ?_
      refine s_if (et_key key_kind (ev_var rfl)) (fun c _ _ => absurd c (by decide)) (fun c H1 e1 => ?_)
      refine s_if (et_key key_thing (ev_var rfl)) (fun c _ _ => absurd c (by decide)) (fun c H2 e2 => ?_)
      refine s_if (et_key key_fact (ev_var rfl)) (fun c H3 e3 => ?_) (fun c _ _ => absurd c (by decide))
      have e := ((e0.trans e1).trans e2).trans e3
      have T1 := T.mono e
      refine q_app (K := K) T1.facts (ev_facts T1 C (ev_var rfl)) (txi (i := 1) rfl (e _ _ hp) rfl) (few (m := 4) (by simpa [Pn16.names] using hx.facts.1) (by decide)) fun H4 e4 => ?_
      have k1 := kept_upd (ys := txts (Pn16.names x.facts) ++ [.str (S n)]) T1.facts e4
      have hN : upd H4 A.f (.lst (txts (Pn16.names x.facts) ++ [.str (S n)])) A.f = some (.lst (txts (Pn16.names x.facts ++ [n]))) := by rw [upd_same, snoc]
      have hfr : ∀ {b}, upd H4 A.f (.lst (txts (Pn16.names x.facts) ++ [.str (S n)])) b = none → H3 b = none := fun {b} h => by
        by_cases hb : b = A.f
        · rw [hb, upd_same] at h
          cases h
        · rw [upd_ne hb] at h
          exact fresh_back e4 h
      generalize upd H4 A.f (.lst (txts (Pn16.names x.facts) ++ [.str (S n)])) = N1 at k1 hN hfr
      have ne1 : A.fk ≠ A.f := ne_mem ap.f.1 (by simp)
      have hfk := k1.lst T1.factKinds ne1
      have hins := k1.ins T1.ins
      have hp1 := k1.lst (e _ _ hp) fun z => hpn (by rw [z]; exact inh (by simp [TextA.heads]))
      have hl4 := T.fks.length
      have hx4 := hx.facts.1
      refine s_appL (K := K) hfk (ev_fld (ev_var rfl) hins C.t C.tfk ((lk_past (by decide +kernel)).trans ((lk_past (by decide +kernel)).trans ((lk_past (by decide +kernel)).trans ((lk_past (by decide +kernel)).trans lk_here))))) (el_tail (K := K) (n := 2) rfl (ev_var rfl) (sq_of hp1)) (by rw [List.length_map]; omega) fun r H5 hr5 e5 h5 => ?_
      have k2 := kept_upd (ys := A.fks.map V.ref ++ [.ref r]) hfk e5
      have hr3 := hfr hr5
      have hrn : r ∉ A.lists := fresh_lists T1 hr3
      have hrf : r ≠ A.fk := fun z => hrn (by rw [z]; exact inh (by simp [TextA.heads]))
      refine q { A with fks := A.fks ++ [r] } _ rfl (grow_fact T1 ap hx k1 k2 hN upd_same ?_) (nodup_fks nd hrn) (fun b hb => ?_) fun b o hb hn => rest k2 (inh (by simp [TextA.heads])) b o (rest k1 (inh (by simp [TextA.heads])) b o (e _ _ hb) hn) hn
      · rw [upd_ne hrf, h5]
        have : ks.map (kindName x) = l := (all_index h4).1
        rw [this]
        rfl
      · rcases mem_fks hb with h | h
        · exact .inl h
        · exact .inr (by rw [h]; exact fresh_back e hr3)
    | @act n c l co ks h1 h2 h3 h4 h5 h6 h7 h8 h9 =>
      refine q_asg (txi (i := 0) rfl hp rfl) fun H0 e0 => ?_
      refine s_if (et_key key_kind (ev_var rfl)) (fun c _ _ => absurd c (by decide)) (fun c H1 e1 => ?_)
      refine s_if (et_key key_thing (ev_var rfl)) (fun c _ _ => absurd c (by decide)) (fun c H2 e2 => ?_)
      refine s_if (et_key key_fact (ev_var rfl)) (fun c _ _ => absurd c (by decide)) (fun c H3 e3 => ?_)
      refine s_if (et_key key_act (ev_var rfl)) (fun c H4 e4 => ?_) (fun c _ _ => absurd c (by decide))
      have e := (((e0.trans e1).trans e2).trans e3).trans e4
      have T1 := T.mono e
      have hl4 := T.as.length
      have hx4 := hx.acts.1
      refine s_appX (K := K) T1.acts (ev_acts T1 C (ev_var rfl)) fun H5 e5 => ?_
      refine act_made (x := x) rfl ((e.trans e5) _ _ hp) h2 h3 h8 _ fun B H6 e6 hB ndB TB => ?_
      have e46 := e5.trans e6
      refine ⟨A.ac, _, .ref B.b, rfl, rfl, e46 _ _ T1.acts, sz_lt (by rw [List.length_map]; omega), ?_⟩
      have k := kept_upd (ys := (A.as.map fun q => V.ref q.b) ++ [.ref B.b]) T1.acts e46
      have hBn : ∀ b ∈ B.lists, b ∉ A.lists := fun b hb => fresh_lists (T1.mono e5) (hB b hb)
      have T6 : Kept H6 (upd H6 A.ac (.lst ((A.as.map fun q => V.ref q.b) ++ [.ref B.b]))) A.ac := kept_upd (e46 _ _ T1.acts) (Ex.refl _)
      refine q { A with as := A.as ++ [B] } _ rfl (grow_act T1 ap k upd_same (T6.act TB fun m => hBn _ m (inh (by simp [TextA.heads])))) (nodup_as nd ndB hBn) (fun b hb => ?_) fun b o hb hn => rest k (inh (by simp [TextA.heads])) b o (e _ _ hb) hn
      rcases mem_as hb with h | h
      · exact .inl h
      · exact .inr (fresh_back (e.trans e5) (hB b h))
    | @lit f pw a sc pre n l h1 h2 h3 h4 h5 h6 h7 =>
      have hf : f = kNeeds ∨ f = kBars ∨ f = kBrings ∨ f = kTakes := of_decide_eq_true h1
      have nk : ∀ {z : List Nat}, (z = kKind ∨ z = kThing ∨ z = kFact ∨ z = kAct) → decide (f = z) = true → False := fun hz c => by
        have := of_decide_eq_true c
        subst this
        rcases hf with h | h | h | h <;> rcases hz with z | z | z | z <;> rw [h] at z <;> exact absurd z (by decide)
      refine q_asg (txi (i := 0) rfl hp rfl) fun H0 e0 => ?_
      refine s_if (et_key key_kind (ev_var rfl)) (fun c _ _ => (nk (by simp) c).elim) (fun c H1 e1 => ?_)
      refine s_if (et_key key_thing (ev_var rfl)) (fun c _ _ => (nk (by simp) c).elim) (fun c H2 e2 => ?_)
      refine s_if (et_key key_fact (ev_var rfl)) (fun c _ _ => (nk (by simp) c).elim) (fun c H3 e3 => ?_)
      refine s_if (et_key key_act (ev_var rfl)) (fun c _ _ => (nk (by simp) c).elim) (fun c H4 e4 => ?_)
      have e := (((e0.trans e1).trans e2).trans e3).trans e4
      have T1 := T.mono e
      obtain ⟨as', B, eA, TB, _⟩ := T1.last (s := sc) (by rw [h2]; simp)
      have hcl := TB.claims (which f)
      have hlen := hcl.2.length
      have hsc : ActOk x sc := hx.acts.2.2 sc (by rw [h2]; simp)
      have h6' : (Pn16.litsOf (which f) sc).length ≤ 6 := by
        unfold Pn16.litsOf
        split
        · exact hsc.needs.1
        · split
          · exact hsc.bars.1
          · split
            · exact hsc.brings.1
            · exact hsc.takes.1
      have hmem : B.l (which f) ∈ A.lists := by
        unfold TextA.lists
        refine List.mem_append_right _ (List.mem_append_right _ (List.mem_flatMap.mpr ⟨B, ?_, mem_l B _⟩))
        rw [eA]
        simp
      refine s_appU (K := K) hcl.1 (ev_call (ea_cons (ev_var rfl) (ea_cons (ev_var rfl) ea_nil)) fun H5 e5 Q5 q5 => ⟨A, x, f, rfl, T1.mono e5, .inr (.inr h1), ?_, ?_, ?_, fun _ as2 B2 eB H6 e6 => ?_⟩) (eu_tuple (K := K) (el_tail (K := K) (n := 1) rfl (ev_var rfl) (sq_of (e _ _ hp)))) (by rw [List.length_map]; omega) fun t H5 ht e5 h5' => ?_
      · intro z
        rcases hf with h | h | h | h <;> rw [h] at z <;> exact absurd z (by decide)
      · intro z
        rcases hf with h | h | h | h <;> rw [h] at z <;> exact absurd z (by decide)
      · intro _ z
        rw [h2] at z
        simp at z
      · have hB : B2 = B := by
          have hh := eA.symm.trans eB
          have := (List.append_inj' hh rfl).2
          simp at this
          exact this.symm
        rw [hB]
        exact q5 H6 e6
      · have k := kept_upd (ys := (B.ts (which f)).map V.ref ++ [.ref t]) hcl.1 e5
        have htn : t ≠ B.l (which f) := fun z => by
          rw [z, hcl.1] at ht
          cases ht
        obtain ⟨g1, g2⟩ := grow_lit (q := (n, l)) (s := sc) T1 nd eA h2 k upd_same (by
          rw [upd_ne htn, h5']
          have e1 : Pn16.factName x n = pw := (index_some h4).2.1
          have e2 : l.map (Pn16.argName x sc) = a := all_names h5
          show some (HO.tup (txts (pw :: a))) = some (HO.tup (txts (Pn16.factName x n :: l.map (Pn16.argName x sc))))
          rw [e1, e2])
        exact q { A with as := as' ++ [B.more (which f) t] } _ rfl g1 (by rw [g2]; exact nd) (fun b hb => .inl (by rw [g2] at hb; exact hb)) fun b o hb hn => rest k hmem b o (e _ _ hb) hn
    | @now pw a n l h1 h2 h3 h4 h5 =>
      refine q_asg (txi (i := 0) rfl hp rfl) fun H0 e0 => ?_
      refine s_if (et_key key_kind (ev_var rfl)) (fun c _ _ => absurd c (by decide)) (fun c H1 e1 => ?_)
      refine s_if (et_key key_thing (ev_var rfl)) (fun c _ _ => absurd c (by decide)) (fun c H2 e2 => ?_)
      refine s_if (et_key key_fact (ev_var rfl)) (fun c _ _ => absurd c (by decide)) (fun c H3 e3 => ?_)
      refine s_if (et_key key_act (ev_var rfl)) (fun c _ _ => absurd c (by decide)) (fun c H4 e4 => ?_)
      have e := (((e0.trans e1).trans e2).trans e3).trans e4
      have T1 := T.mono e
      have hlen := T.ns.length
      have h12 := hx.now.1
      refine s_appU (K := K) T1.now (ev_call (ea_cons (ev_var rfl) (ea_cons (ev_var rfl) ea_nil)) fun H5 e5 Q5 q5 => ⟨A, x, kNow, rfl, T1.mono e5, .inl rfl, fun _ H6 e6 => q5 H6 e6, fun z => absurd z (by decide), fun z => absurd z (by decide), fun z => absurd z (by decide)⟩) (eu_tuple (K := K) (el_tail (K := K) (n := 1) rfl (ev_var rfl) (sq_of (e _ _ hp)))) (by rw [List.length_map]; omega) fun t H5 ht e5 h5' => ?_
      have k := kept_upd (ys := A.ns.map V.ref ++ [.ref t]) T1.now e5
      have htn : t ≠ A.nw := fun z => by
        rw [z, T1.now] at ht
        cases ht
      refine q { A with ns := A.ns ++ [t] } _ rfl (grow_now T1 ap k upd_same ?_) nd (fun l hl => .inl hl) fun b o hb hn => rest k (inh (by simp [TextA.heads])) b o (e _ _ hb) hn
      rw [upd_ne htn, h5']
      have e1 : Pn16.factName x n = pw := (index_some h2).2.1
      have e2 : l.map (Pn16.thingName x) = a := (all_index h3).1
      show some (HO.tup (txts (pw :: a))) = some (HO.tup (txts (Pn16.factName x n :: l.map (Pn16.thingName x))))
      rw [e1, e2]
    | @want pw a n l h1 h2 h3 h4 h5 =>
      refine q_asg (txi (i := 0) rfl hp rfl) fun H0 e0 => ?_
      refine s_if (et_key key_kind (ev_var rfl)) (fun c _ _ => absurd c (by decide)) (fun c H1 e1 => ?_)
      refine s_if (et_key key_thing (ev_var rfl)) (fun c _ _ => absurd c (by decide)) (fun c H2 e2 => ?_)
      refine s_if (et_key key_fact (ev_var rfl)) (fun c _ _ => absurd c (by decide)) (fun c H3 e3 => ?_)
      refine s_if (et_key key_act (ev_var rfl)) (fun c _ _ => absurd c (by decide)) (fun c H4 e4 => ?_)
      have e := (((e0.trans e1).trans e2).trans e3).trans e4
      have T1 := T.mono e
      have hlen := T.ws.length
      have h12 := hx.want.1
      refine s_appU (K := K) T1.want (ev_call (ea_cons (ev_var rfl) (ea_cons (ev_var rfl) ea_nil)) fun H5 e5 Q5 q5 => ⟨A, x, kWant, rfl, T1.mono e5, .inr (.inl rfl), fun z => absurd z (by decide), fun _ H6 e6 => q5 H6 e6, fun z => absurd z (by decide), fun z => absurd z (by decide)⟩) (eu_tuple (K := K) (el_tail (K := K) (n := 1) rfl (ev_var rfl) (sq_of (e _ _ hp)))) (by rw [List.length_map]; omega) fun t H5 ht e5 h5' => ?_
      have k := kept_upd (ys := A.ws.map V.ref ++ [.ref t]) T1.want e5
      have htn : t ≠ A.wt := fun z => by
        rw [z, T1.want] at ht
        cases ht
      refine q { A with ws := A.ws ++ [t] } _ rfl (grow_want T1 ap k upd_same ?_) nd (fun l hl => .inl hl) fun b o hb hn => rest k (inh (by simp [TextA.heads])) b o (e _ _ hb) hn
      rw [upd_ne htn, h5']
      have e1 : Pn16.factName x n = pw := (index_some h2).2.1
      have e2 : l.map (Pn16.thingName x) = a := (all_index h3).1
      show some (HO.tup (txts (pw :: a))) = some (HO.tup (txts (Pn16.factName x n :: l.map (Pn16.thingName x))))
      rw [e1, e2]
end
end KP
set_option Elab.async false
set_option linter.all false
set_option maxRecDepth 100000
set_option maxHeartbeats 800000
/-! house.py -/
namespace KP
open PySem PySem.Spec PyProof.Rows L2 Evl
/-- what one line comes to -/
def lineOf (x : Pn16.Text) (l : List Nat) : Except Nat Pn16.Text := if wrongSigns l = true then .error 1 else Pn16.readLine x (Pn16.words l)
theorem readAll_cons (n : Nat) (x : Pn16.Text) (l : List Nat) (r : List (List Nat)) : Pn16.readAll n x (l :: r) = match lineOf x l with
    | .error e => .error (n, e)
    | .ok y => Pn16.readAll (n + 1) y r := by
  unfold lineOf
  by_cases h : wrongSigns l = true
  · rw [if_pos h]
    have h' : Pn16.LINE < l.length ∨ (l.any fun b => decide (b < 32) || decide (126 < b)) = true := by
      unfold wrongSigns at h
      rw [Bool.or_eq_true, decide_eq_true_eq] at h
      exact h
    show (if Pn16.LINE < l.length ∨ (l.any fun b => decide (b < 32) || decide (126 < b)) = true then _ else _) = _
    rw [if_pos h']
  · rw [if_neg h]
    have h' : ¬ (Pn16.LINE < l.length ∨ (l.any fun b => decide (b < 32) || decide (126 < b)) = true) := fun z => h (by
      unfold wrongSigns
      rw [Bool.or_eq_true, decide_eq_true_eq]
      exact z)
    show (if Pn16.LINE < l.length ∨ (l.any fun b => decide (b < 32) || decide (126 < b)) = true then _ else _) = _
    rw [if_neg h']
    cases Pn16.readLine x (Pn16.words l) <;> rfl
theorem words_each : ∀ (l : List Nat), ∀ v ∈ Pn16.cut 32 l, v.length ≤ l.length
  | [], v, h => by
    simp [Pn16.cut] at h
    rw [h]
    exact Nat.le_refl _
  | b :: r, v, h => by
    have ih := words_each r
    unfold Pn16.cut at h
    split at h
    · rcases List.mem_cons.mp h with e | h
      · rw [e]
        exact Nat.zero_le _
      · have := ih v h
        simp
        omega
    · split at h
      · rw [List.mem_singleton] at h
        rw [h]
        simp
      · rename_i w l' e
        rcases List.mem_cons.mp h with e2 | h
        · have := ih w (by rw [e]; exact List.mem_cons_self ..)
          rw [e2]
          simp
          omega
        · have := ih v (by rw [e]; exact List.mem_cons_of_mem _ h)
          simp
          omega
theorem words_few : ∀ (l : List Nat), (Pn16.cut 32 l).length ≤ l.length + 1
  | [] => by simp [Pn16.cut]
  | b :: r => by
    have ih := words_few r
    unfold Pn16.cut
    split
    · simp
      exact ih
    · split
      · simp
      · rename_i w l' e
        rw [e] at ih
        simp at ih ⊢
        omega
theorem words_ok {l : List Nat} (hl : l.length ≤ 60) (hne : Pn16.words l ≠ []) : WordsOk ((Pn16.words l).map clean) := by
  refine ⟨fun e => hne (List.map_eq_nil_iff.mp e), fun v hv => ?_, ?_⟩
  · obtain ⟨u, hu, rfl⟩ := List.mem_map.mp hv
    unfold Pn16.words at hu
    rw [List.mem_filter] at hu
    obtain ⟨h1, h2⟩ := hu
    have := words_each l u h1
    refine ⟨fun e => ?_, ?_⟩
    · have : u = [] := List.map_eq_nil_iff.mp e
      rw [this] at h2
      simp at h2
    · unfold clean
      rw [List.length_map]
      omega
  · rw [List.length_map]
    have h1 : (Pn16.words l).length ≤ (Pn16.cut 32 l).length := List.length_filter_le ..
    have := words_few l
    omega
section
variable {K : PySem.W.Frag} {mg : Str → Option Value} {P : Program} {w : World} {base : Heap} {CT CA dR dC dM tO : Addr}
/-! ### take_line -/
abbrev s_take_line : Stmt := top 82
theorem sc_take_line : FnScope ["text", "line", "words", "fault"] ["text", "line"] (defScope s_take_line) := ⟨rfl, rfl, rfl, by decide +kernel, rfl, by decide +kernel, by decide +kernel⟩
def sp_take_line (K : PySem.W.Frag) (CT CA : Addr) : Sp := fun vs H Q _ => ∃ (A : TextA) (x : Pn16.Text) (a : Addr) (l : List Nat), vs = [.ref A.a, .ref a] ∧ TextAt CT CA H A x ∧ TextOk x ∧ A.lists.Nodup ∧ SqL K H a (bytesV l) ∧ l.length ≤ 1500 ∧
  (∀ e H2, lineOf x l = .error e → e ≠ 0 → Ex H H2 → Q (.int (e : Nat)) H2) ∧
  (∀ y A' H2, lineOf x l = .ok y → TextOk y → A'.a = A.a → TextAt CT CA H2 A' y → A'.lists.Nodup → (∀ b ∈ A'.lists, b ∈ A.lists ∨ H b = none) → (∀ b o, H b = some o → b ∉ A.lists → H2 b = some o) → Q (.int 0) H2)
theorem has_take_line {f : Addr} {fd : FuncData} (F : Fun K "take_line" "take_line" s_take_line f fd) (O : Own mg) (B : Tabs K w mg dR dC dM tO) (g : mg "take_line" = some (.ref f)) (h_has_wrong_signs : Has P w K mg base 1 "has_wrong_signs" ["line"] (sp_has_wrong_signs K)) (h_cut_words : Has P w K mg base 2 "cut_words" ["line"] (sp_cut_words K))
    (h_lowest_fault : Has P w K mg base 4 "lowest_fault" ["text", "words"] (sp_lowest K CT CA)) (h_tell : Has P w K mg base 3 "tell" ["text", "words"] (sp_tell CT CA)) : Has P w K mg base 5 "take_line" ["text", "line"] (sp_take_line K CT CA) := by
  refine ⟨f, fd, F.ok sc_take_line (fun vs H Q E h => ?_) (fun cdv A outer s H vs Q E hr h => ?_), g, F.kp, F.binds fun _ _ _ _ _ _ us hl => match us, hl with | [_, _], _ => rfl⟩
  · obtain ⟨_, _, _, _, rfl, _⟩ := h
    rfl
  · obtain ⟨A, x, a, l, rfl, T, hx, nd, ha, hl, q1, q2⟩ := h
    refine ⟨_, (pss_cons (ps_if (pt_val (pe_own h_has_wrong_signs (hr.mono (by decide)) rfl (pa_cons (pv 1) pa_nil))) (pss_one (ps_ret pe_int)) pss_nil)
      (pss_cons (ps_set (i := 2) sc_take_line.nd rfl (Or.inl rfl) (pe_own h_cut_words (hr.mono (by decide)) rfl (pa_cons (pv 1) pa_nil)))
      (pss_cons (ps_if (pt_cmpR op_eq (pe_callB call_len_seq (by rfl) O.len (by decide +kernel) (pa_cons (pv 2) pa_nil)) pe_int (nomark _)) (pss_one (ps_ret (pe_gint B.noF rfl))) pss_nil)
      (pss_cons (ps_set (i := 3) sc_take_line.nd rfl (Or.inl rfl) (pe_own h_lowest_fault (hr.mono (by decide)) rfl (pa_cons (pv 0) (pa_cons (pv 2) pa_nil))))
      (pss_cons (ps_if (pt_cmpR op_eq (pv 3) (pe_gint B.noF rfl) (nomark _)) (pss_one (ps_expr (pe_own h_tell (hr.mono (by decide)) rfl (pa_cons (pv 0) (pa_cons (pv 2) pa_nil))))) pss_nil)
      (pss_one (ps_ret (pv 3)))))))), ?_⟩
    refine q_when (et_B (ev_call (v := .bl (wrongSigns l)) (ea_cons (ev_var rfl) ea_nil) fun H1 e1 Q1 z1 => ⟨a, l, rfl, ex_l e1 ha, hl, z1⟩)) (fun c H1 e1 => ?_) (fun c H1 e1 => ?_)
    · exact s_ret (v := .int 1) ev_c fun H2 e2 => q1 1 H2 (by unfold lineOf; rw [if_pos c]) (by decide) (e1.trans e2)
    have hlo : lineOf x l = Pn16.readLine x (Pn16.words l) := by
      unfold lineOf
      rw [if_neg (by rw [c]; exact Bool.false_ne_true)]
    have h60 : l.length ≤ 60 := by
      unfold wrongSigns at c
      rw [Bool.or_eq_false_iff] at c
      have := of_decide_eq_false c.1
      omega
    have hcw : EvL (tCall (sp_cut_words K) [] E0 (tCons (tVar 1) tNil)) (start ["text", "line", "words", "fault"] [.ref A.a, .ref a]) H1 (txts ((Pn16.words l).map clean)) := fun H2 e2 Q2 z2 => ⟨_, rfl, a, l, rfl, ex_l (e1.trans e2) ha, hl, fun p H3 hp e3 h3 => z2 p H3 hp e3 h3⟩
    refine q_asgL hcw fun p H2 hp e2 h2 => ?_
    have e12 := e1.trans e2
    refine q_when (ev_isEmpty (K := K) (ev_var rfl) (sq_of h2)) (fun c2 H3 e3 => ?_) (fun c2 H3 e3 => ?_)
    · have h0 : Pn16.words l = [] := List.map_eq_nil_iff.mp (List.map_eq_nil_iff.mp (of_decide_eq_true c2))
      have e13 := e12.trans e3
      refine s_ret (v := .int 0) ev_c fun H4 e4 => q2 x A H4 (by rw [hlo, h0]; rfl) hx rfl (T.mono (e13.trans e4)) nd (fun b hb => .inl hb) fun b o hb _ => (e13.trans e4) _ _ hb
    have hne : Pn16.words l ≠ [] := fun e => of_decide_eq_false c2 (by rw [e]; rfl)
    have W := words_ok h60 hne
    have e13 := e12.trans e3
    refine q_asg (ev_call (v := .int (lowest x ((Pn16.words l).map clean) : Nat)) (ea_cons (ev_var rfl) (ea_cons (ev_var rfl) ea_nil)) fun H4 e4 Q4 z4 => ⟨A, x, p, _, rfl, T.mono (e13.trans e4), hx, sq_of ((e3.trans e4) _ _ h2), W, z4⟩) fun H4 e4 => ?_
    have e14 := e13.trans e4
    have ag := agrees_clean hx (Pn16.words l) hne
    rw [← hlo] at ag
    refine q_when (et_eqI (ev_var rfl) ev_c) (fun c3 H5 e5 => ?_) (fun c3 H5 e5 => ?_)
    · have h0 : lowest x ((Pn16.words l).map clean) = 0 := by
        have := of_decide_eq_true c3
        omega
      cases hr : lineOf x l with
      | error e =>
        rw [hr] at ag
        exact absurd (ag.1.symm.trans h0) ag.2
      | ok y =>
        rw [hr] at ag
        obtain ⟨_, hcl, st⟩ := ag
        have hp5 := (((e3.trans e4).trans e5)) _ _ h2
        have T5 := T.mono (e14.trans e5)
        have hpn : p ∉ A.lists := fresh_lists (T.mono e1) hp
        rw [hcl] at hp5
        refine ⟨_, rfl, _, rfl, A, x, y, p, _, rfl, T5, hx, nd, hp5, hpn, st, fun A' H6 eA T6 nd6 l6 k6 => ?_⟩
        refine s_ret (ev_var (v := .int (lowest x ((Pn16.words l).map clean) : Nat)) rfl) fun H7 e7 => ?_
        rw [h0]
        refine q2 y A' H7 hr (step_ok hx st) eA (T6.mono e7) nd6 (fun b hb => ?_) fun b o hb hn => e7 _ _ (k6 b o ((e14.trans e5) _ _ hb) hn)
        rcases l6 b hb with h | h
        · exact .inl h
        · exact .inr (fresh_back (e14.trans e5) h)
    · have h0 : lowest x ((Pn16.words l).map clean) ≠ 0 := by
        have := of_decide_eq_false c3
        omega
      cases hr : lineOf x l with
      | ok y =>
        rw [hr] at ag
        exact absurd ag.1 h0
      | error e =>
        rw [hr] at ag
        refine s_ret (ev_var (v := .int (lowest x ((Pn16.words l).map clean) : Nat)) rfl) fun H7 e7 => ?_
        rw [ag.1]
        exact q1 e H7 hr ag.2 ((e14.trans e5).trans e7)
end
end KP
set_option Elab.async false
set_option linter.all false
set_option maxRecDepth 100000
set_option maxHeartbeats 400000
/-! enumerate(l, start=k), walked by pairs. -/
namespace KP
open PySem PySem.Spec PyProof.Rows L2 Evl
def Itk (K : PySem.W.Frag) (a : Addr) (k : Nat) : It where
  go := fun i H => ∃ (xs : List V) (x : V), SqL K H a xs ∧ xs[i]? = some x
  yld := fun i H v H' => ∃ T x, v = .ref T ∧ H T = none ∧ H' = upd H T (.tup [.int ((k + i : Nat) : Int), x]) ∧ ∀ xs, SqL K H a xs → xs[i]? = some x
  stop := fun i H => ∃ xs : List V, SqL K H a xs ∧ xs.length = i
theorem turn_enumk {P : Program} {w : World} {K : PySem.W.Frag} {elts : List Expr} {kk : Nat} {tpos : Pos} {a e it : Addr} {k : Nat} (h1 : e ≠ it) (h2 : a ≠ it) (h3 : e ≠ a) :
    Turn P w K (.Tuple elts kk tpos) (Itk K a k) [e, it] e (fun i h => (∃ old, IsEnum h e it ((k : Int) + i) old) ∧ h.IsListIter it a i) where
  mem := List.mem_cons_self ..
  obj := by
    rintro i h ⟨⟨old, y1⟩, ⟨ob, y2, _, y3⟩⟩ c hc
    simp only [List.mem_cons, List.not_mem_nil, or_false] at hc
    rcases hc with q | q <;> subst q
    · exact ⟨_, y1, fun _ n => nomatch n⟩
    · exact ⟨ob, y2, fun _ n => by rw [y3] at n; cases n⟩
  keep := by
    rintro i h h' ⟨⟨old, y1⟩, y2⟩ q
    exact ⟨⟨old, q e (by simp) _ y1⟩, y2.at fun o => q it (by simp) o⟩
  item := by
    intro X hP hw hK calm i pins s σ H E I fr at_ hgo
    subst hP hw hK
    obtain ⟨⟨old, y1⟩, y2⟩ := at_
    obtain ⟨xs, x, sx, gx⟩ := hgo
    obtain ⟨ixs, rx, lx, _⟩ := I.list sx
    have lx' := rx.length
    have bx := (List.getElem?_eq_some_iff.mp gx).1
    have el : e < s.heap.objs.size := Heap.lt_size y1
    have hh : X.A.in1.handled = none := I.ok.hd calm
    refine wpAny_pyNext_enum_itemC (i := i) (Draws.list hh it a h2 ixs.toArray) y1 ⟨y2, lx.isList⟩ (by simp; omega) h1 (by simp [h1, h3]) fun x1 h' tk e1 z1 n1 pr sz kp => ?_
    refine ⟨_, rfl, wpAny_letOwnedTupleGo_enum (s := { s with heap := h', toks := tk + 1 }) z1 fun h'' z3 sb => ?_⟩
    have r1 : RelV x x1 := by
      obtain ⟨t, ht, r⟩ := rx.get gx
      have : ixs.toArray[i]? = some t := by simpa using ht
      rw [e1] at this
      cases this
      exact r
    have made : ObjOk X.prog X.w (upd H s.heap.objs.size (.tup [.int ((k + i : Nat) : Int), x])) h'' s.heap.objs.size (.tup [.int ((k + i : Nat) : Int), x]) := by
      refine ⟨by show 2 ≤ sizeLine; decide, [.int ((k : Int) + i) tk, x1], .cons ⟨tk, by rw [Int.natCast_add]⟩ (.cons r1 .nil), _, (sb.2 _ (Nat.ne_of_gt el)).trans pr, rfl, _, rfl⟩
    have keep : ∀ c o, c ∉ [e, it] → s.heap.get? c = some o → h''.get? c = some o := fun c o hc q => by
      simp only [List.mem_cons, List.not_mem_nil, or_false, not_or] at hc
      exact (sb.2 c hc.1).trans (kp c o hc.1 hc.2 q)
    refine ⟨.ref s.heap.objs.size, _, I.turnedNew (t' := tk + 1) keep fr (Nat.le_refl _) made, rfl, ⟨_, x, rfl, I.hok.fresh (Nat.le_refl _), rfl, fun l hl => ?_⟩, ⟨⟨x1, ?_⟩, ?_⟩, fun c hc => ?_⟩
    · rw [I.list_inj hl sx]
      exact gx
    · have : (k : Int) + ((i + 1 : Nat) : Int) = (k : Int) + i + 1 := by omega
      rw [this]
      exact z3
    · exact n1.1.at fun o q => (sb.2 it h1.symm).trans q
    · have cl : c < s.heap.objs.size := by
        simp only [List.mem_cons, List.not_mem_nil, or_false] at hc
        rcases hc with q | q <;> subst q
        · exact el
        · exact Heap.lt_size y2.choose_spec.1
      rw [upd_ne (Nat.ne_of_lt cl)]
      exact (fr c hc).1
  done := by
    intro X hP hw hK calm i pins s σ H E I fr at_ hst
    subst hP hw hK
    obtain ⟨⟨old, y1⟩, y2⟩ := at_
    obtain ⟨xs, sx, end_⟩ := hst
    obtain ⟨ixs, rx, lx, _⟩ := I.list sx
    have lx' := rx.length
    have hh : X.A.in1.handled = none := I.ok.hd calm
    have hn : i = ixs.toArray.size := by simp; omega
    subst hn
    refine wpAny_pyNext_enum_endD (Draws.list hh it a h2 ixs.toArray) y1 ⟨y2, lx.isList⟩ fun h' kp => ⟨rfl, ?_⟩
    refine I.turnedL (t' := s.toks) (ch := [e, it]) (fun c o hc q => ?_) fr
    simp only [List.mem_cons, List.not_mem_nil, or_false, not_or] at hc
    exact kp c o hc.2 q
  self := fun A i s Q E st h => by
    obtain ⟨⟨old, y1⟩, _⟩ := st
    exact wpAny_pyIter_enum y1 h
def iEnumS (K : PySem.W.Frag) (ta tk : TA) : TI := fun σ H R => ta σ H fun vs H1 => tk σ H1 fun ks H2 => ∃ (a : Addr) (xs : List V) (k : Nat), vs = [.ref a] ∧ ks = [.int (k : Int)] ∧ k < 1000 ∧ SqL K H2 a xs ∧ R (Itk K a k) H2
theorem pi_enumS {X : Cx} {e ek : Expr} {ta tk : TA} {p pos kpos tpos : Pos} {elts : List Expr} {kk : Nat} (hg : Gl X "enumerate") (hm : X.mg "enumerate" = none) (ha : PA X [e] ta) (hk : PK X [⟨some "start", ek, kpos⟩] tk)
    (hall : ((backToKw pos (keywordEach [⟨some "start", ek, kpos⟩] X.env)).all fun x => x.fst.isSome) = true := by rfl)
    (hks : List.filterMap (fun x => x.fst) (backToKw pos (keywordEach [⟨some "start", ek, kpos⟩] X.env)) = [("start" : Str)] := by rfl)
    (hs : (starEach [e] X.env) = ((false, eval e X.env) :: starEach [] X.env) := by rfl)
    (hpl : (((backTo pos (starEach [e] X.env)).any fun x => x.fst) || (backToKw pos (keywordEach [⟨some "start", ek, kpos⟩] X.env)).any fun x => x.fst.isNone) = false := by rfl) :
    PI X (.Tuple elts kk tpos) (.Call (.Name "enumerate" p) [e] [⟨some "start", ek, kpos⟩] pos) (iEnumS X.K ta tk) := by
  refine ⟨fun pins s σ H R I h => ?_⟩
  refine wpAny_Call_Name_kw (ld_blt I hg hm PyProof.Rows.boot_enumerate ?_)
  refine PySem.W.callWith_of (P := fun _ => True) hpl (fun _ _ => ⟨Keeper.machine, .inr (.inl rfl), PySem.W.Looks.of_pure rfl⟩) ?_
  refine evalArgs_kw2 hall (thn (ha.run pos pins s σ H _ I h) fun us s1 ⟨rs, H1, I1, r1, q1⟩ => thn (hk.run pos pins s1 σ H1 _ I1 q1) fun ks s2 ⟨zs, H2, I2, r2, q2⟩ => ⟨trivial, ?_⟩) hs
  obtain ⟨a, xs, k, rfl, rfl, hk1, hx, q⟩ := q2
  rw [hks]
  cases r1 with
  | cons ra rt =>
    cases ra
    cases rt
    cases r2 with
    | cons rk rt =>
      obtain ⟨t, rfl⟩ := rk
      cases rt
      obtain ⟨its, _, lv, _⟩ := I2.list hx
      refine enum_begins_start (begins_list a its.toArray) lv.isList (by omega) (by omega) fun h' y1 y2 sz kp => wpAny_pyIter_enum y1 ?_
      have ha' : a < s2.heap.objs.size := lv.lt
      refine ⟨s2.heap.objs.size + 1, [s2.heap.objs.size + 1, s2.heap.objs.size], _, Itk X.K a k, H2, rfl, I2.kept (t' := s2.toks) kp, turn_enumk (a := a) (e := s2.heap.objs.size + 1) (it := s2.heap.objs.size) (k := k) (Nat.succ_ne_self _) (Nat.ne_of_lt ha') (Nat.ne_of_gt (Nat.lt_succ_of_lt ha')), ?_, fun c hc => ?_, q⟩
      · refine ⟨⟨.none, ?_⟩, ⟨_, y2, rfl, rfl⟩⟩
        have : (k : Int) + ((0 : Nat) : Int) = (k : Int) := by omega
        rw [this]
        exact y1
      · have le : s2.heap.objs.size ≤ c := by
          simp only [List.mem_cons, List.not_mem_nil, or_false] at hc
          rcases hc with q | q <;> rw [q]
          · exact Nat.le_add_right _ _
          · exact Nat.le_refl _
        exact I2.fpOk le (I2.hok.fresh le)
theorem walk_enumk {K : PySem.W.Frag} {a : Addr} {k : Nat} {xs : List V} : Walk (Itk K a k) xs.length (fun H => SqL K H a xs) (YPair (fun i => some (.int ((k + i : Nat) : Int))) (fun i => xs[i]?)) where
  goes := fun i H hi g => ⟨xs, xs[i], g, List.getElem?_eq_getElem hi⟩
  stops := fun H g => ⟨xs, g, rfl⟩
  yields := fun i H x H' _ g y => by
    obtain ⟨T, v, h1, h2, h3, h4⟩ := y
    exact ⟨T, _, v, h1, h2, h3, rfl, h4 xs g⟩
end KP
set_option Elab.async false
set_option linter.all false
set_option maxRecDepth 100000
set_option maxHeartbeats 1000000
/-! l.extend(t), t a tuple. -/
namespace KP
open PySem PySem.Spec PyProof.Rows L2 Evl
section
open PySem.Sem
theorem ext_made (l b : Addr) (its ut : Array Value) (n m : Nat) (dc : Option Addr) (sl : Array (Option Value)) (hz : its.size + ut.size ≤ sizeLine) : Meets (Builtin.«list.extend» ⟨[.ref l, .ref b], []⟩) (fun _ R s => s.heap.get? l = some { cls := .type "list", data := .seq its n } ∧ s.heap.get? b = some { cls := .type "tuple", dict := dc, data := .seq ut m, slots := sl } ∧ R (.ok (.ret .none)) { s with heap := s.heap.update l (Obj.mapSeq fun x => x ++ ut) }) := by
  refine .of_wp fun prog w A R s h => ?_
  obtain ⟨hp, gs, dr, tk, os⟩ := s
  obtain ⟨g1, g2, h⟩ := h
  wp_walk
  have hn : ¬ (!its.isEmpty && Builtin.List.listTooLong (its.size + ut.size)) = true := extend_door hz
  rw [if_neg hn]
  refine wpAny_bind (listUpdate_at g1 rfl ?_ (by omega) (by rw [Array.size_append]; omega))
  wp_walk
  exact ⟨_, rfl, h⟩
end
def rExtendT (K : PySem.W.Frag) : V → List V → Hp → VK → Prop := fun x vs H Q => ∃ l b xs zs, x = .ref l ∧ vs = [.ref b] ∧ H l = some (.lst xs) ∧ SqT K H b zs ∧ xs.length + zs.length ≤ sizeLine ∧ Q .non (upd H l (.lst (xs ++ zs)))
theorem mt_extendT {X : Cx} : MtM X "list.extend" (rExtendT X.K) := by
  intro pins s σ H x vs v us Q I rx rv h
  obtain ⟨l, b, xs, zs, rfl, rfl, hH, hB, hz, q⟩ := (h)
  cases rx
  obtain ⟨u, rfl, ru⟩ := Vals.one rv
  cases ru
  obtain ⟨z, its, n, r, hl, e⟩ := I.lstM hH
  obtain ⟨ut, r2, tu, _⟩ := I.tuple hB
  obtain ⟨o, ho, hc, m, hd⟩ := show s.heap.IsTuple b ut.toArray from tu
  have h2 := r2.length
  obtain ⟨oc, od, odt, osl⟩ := o
  have hc' : oc = .type "tuple" := hc
  have hd' : odt = .seq ut.toArray m := hd
  subst hc' hd'
  refine call_meets F.slot_list_extend ⟨_, e, rfl⟩ F.entry_list_extend (F.args_list_extend_2 _ _) (ext_made l b its.toArray ut.toArray n m od osl (by rw [List.size_toArray, List.size_toArray]; omega)) ⟨e, ho, ?_⟩
  exact ⟨.non, _, I.lset hH e (its' := its ++ ut) (by simp) (r.append r2) (by rw [List.length_append]; exact hz), rfl, q⟩
end KP
set_option Elab.async false
set_option linter.all false
set_option maxRecDepth 100000
set_option maxHeartbeats 800000
namespace KP
open PySem PySem.Spec PyProof.Rows L2 Evl
structure Own2 (mg : Str → Option Value) : Prop where
  mostFacts : ∃ t, mg "MOST_FACTS" = some (.int 8 t)
  mostActs : ∃ t, mg "MOST_ACTS" = some (.int 12 t)
  wrong : ∃ t, mg "WRONG_TEXT" = some (.int (-1) t)
  noneSuch : ∃ t, mg "NONE_SUCH" = some (.int (-2) t)
  notDone : ∃ t, mg "NOT_TO_BE_DONE" = some (.int (-5) t)
  noPlan : ∃ t, mg "NO_PLAN" = some (.int (-6) t)
section
variable {K : PySem.W.Frag} {mg : Str → Option Value} {P : Program} {w : World} {base : Heap} {CT CA dR dC dM tO : Addr}
/-! ### whole_fault -/
def wholeOf (f a : Nat) : Nat := if f = 0 ∨ 8 < f then 9 else if 12 < a then 10 else 0
abbrev s_whole_fault : Stmt := top 83
theorem sc_whole_fault : FnScope ["facts", "acts"] ["facts", "acts"] (defScope s_whole_fault) := ⟨rfl, rfl, rfl, by decide +kernel, rfl, by decide +kernel, by decide +kernel⟩
def sp_whole_fault (K : PySem.W.Frag) : Sp := fun vs H Q _ => ∃ (p q : Addr) (fs as : List V), vs = [.ref p, .ref q] ∧ SqL K H p fs ∧ SqL K H q as ∧ ∀ H2, Ex H H2 → Q (.int (wholeOf fs.length as.length : Nat)) H2
theorem has_whole_fault {f : Addr} {fd : FuncData} (F : Fun K "whole_fault" "whole_fault" s_whole_fault f fd) (O : Own mg) (O2 : Own2 mg) (B : Tabs K w mg dR dC dM tO) (g : mg "whole_fault" = some (.ref f)) : Has P w K mg base 1 "whole_fault" ["facts", "acts"] (sp_whole_fault K) := by
  refine ⟨f, fd, F.ok sc_whole_fault (fun vs H Q E h => ?_) (fun cdv A outer s H vs Q E hr h => ?_), g, F.kp, F.binds fun _ _ _ _ _ _ us hl => match us, hl with | [_, _], _ => rfl⟩
  · obtain ⟨_, _, _, _, rfl, _⟩ := h
    rfl
  · obtain ⟨p, q, fs, as, rfl, hp, hq, z⟩ := h
    refine ⟨_, (pss_cons (ps_if (PW.pt (pw_or (pt_cmpR op_eq (pe_callB call_len_seq (by rfl) O.len (by decide +kernel) (pa_cons (pv 0) pa_nil)) pe_int (nomark _)) (pw_or1 (pt_cmpR op_gt (pe_callB call_len_seq (by rfl) O.len (by decide +kernel) (pa_cons (pv 0) pa_nil)) (pe_gint O2.mostFacts rfl) (nomark _))))) (pss_one (ps_ret pe_int)) pss_nil)
      (pss_cons (ps_if (pt_cmpR op_gt (pe_callB call_len_seq (by rfl) O.len (by decide +kernel) (pa_cons (pv 1) pa_nil)) (pe_gint O2.mostActs rfl) (nomark _)) (pss_one (ps_ret pe_int)) pss_nil)
      (pss_one (ps_ret (pe_gint B.noF rfl))))), ?_⟩
    have hlf : ∀ F, Ex H F → Ev (tCB (rLenS K) (tCons (tVar 0) tNil)) (start ["facts", "acts"] [.ref p, .ref q]) F (.int (fs.length : Nat)) := fun F e => ev_len (ev_var rfl) (ex_l e hp)
    refine q_when (et_or (et_eqI (hlf H (Ex.refl _)) ev_c) fun _ => et_cmpI (hlf H (Ex.refl _)) ev_c) (fun c H1 e1 => ?_) (fun c H1 e1 => ?_)
    · refine s_ret (v := .int 9) ev_c fun H2 e2 => ?_
      have := z H2 (e1.trans e2)
      unfold wholeOf at this
      rw [if_pos (by
        rw [Bool.or_eq_true, decide_eq_true_eq, decide_eq_true_eq] at c
        omega)] at this
      exact this
    have c1 : ¬ (fs.length = 0 ∨ 8 < fs.length) := by
      rw [Bool.or_eq_false_iff, decide_eq_false_iff_not, decide_eq_false_iff_not] at c
      omega
    refine q_when (et_cmpI (ev_len (ev_var rfl) (ex_l e1 hq)) ev_c) (fun c H2 e2 => ?_) (fun c H2 e2 => ?_)
    · refine s_ret (v := .int 10) ev_c fun H3 e3 => ?_
      have := z H3 ((e1.trans e2).trans e3)
      unfold wholeOf at this
      rw [if_neg c1, if_pos (by
        rw [decide_eq_true_eq] at c
        omega)] at this
      exact this
    · refine s_ret (v := .int 0) ev_c fun H3 e3 => ?_
      have := z H3 ((e1.trans e2).trans e3)
      unfold wholeOf at this
      rw [if_neg c1, if_neg (by
        rw [decide_eq_false_iff_not] at c
        omega)] at this
      exact this
/-! ### cases_answer -/
def numsOf (cs : List (Nat × List Nat)) : List Nat := cs.flatMap fun c => c.1 :: c.2.length :: c.2
theorem nums_len : ∀ {cs : List (Nat × List Nat)}, (∀ c ∈ cs, c.2.length ≤ 2) → (numsOf cs).length ≤ 4 * cs.length
  | [], _ => Nat.le_refl _
  | c :: cs, h => by
    have ih := nums_len (cs := cs) fun d hd => h d (List.mem_cons_of_mem _ hd)
    have := h c (List.mem_cons_self ..)
    show ((c.1 :: c.2.length :: c.2) ++ numsOf cs).length ≤ 4 * (cs.length + 1)
    rw [List.length_append]
    simp
    omega
abbrev s_cases_answer : Stmt := top 87
theorem sc_cases_answer : FnScope ["cases", "numbers", "number", "things"] ["cases"] (defScope s_cases_answer) := ⟨rfl, rfl, rfl, by decide +kernel, rfl, by decide +kernel, by decide +kernel⟩
def sp_cases_answer (K : PySem.W.Frag) : Sp := fun vs H Q _ => ∃ (p : Addr) (as : List Addr) (cs : List (Nat × List Nat)), vs = [.ref p] ∧ SqL K H p (as.map V.ref) ∧ CasesAt K H as cs ∧ cs.length ≤ 5000 ∧ (∀ c ∈ cs, c.2.length ≤ 2) ∧ ∀ l H2, H l = none → Ex H H2 → H2 l = some (.lst (bytesV (cs.length :: numsOf cs))) → Q (.ref l) H2
theorem g_pairS {σ : L2.St} {H : Hp} {T : Addr} {x y : V} {i j : Nat} {Q : L2.St → Hp → Prop} (hT : SqT K H T [x, y]) (h : Q ((σ.set i (some x)).set j (some y)) H) : gTup K 2 (gCons (gName i) (gCons (gName j) gNil)) (.ref T) σ H Q :=
  ⟨T, [x, y], rfl, hT, rfl, x, [y], rfl, y, [], rfl, rfl, h⟩
theorem s_extT {σ : L2.St} {H : Hp} {ta te : TE} {D : Ends} {l b : Addr} {xs ys : List V} (h : H l = some (.lst xs)) (ha : Ev ta σ H (.ref l)) (hb : Ev te σ H (.ref b)) (ht : SqT K H b ys) (hl : xs.length + ys.length ≤ 100000) (k : ∀ H1, Ex H H1 → D.nx σ (upd H1 l (.lst (xs ++ ys)))) : tDrop (tBM K "list" (rExtendT K) ta (tCons te tNil)) D σ H :=
  ha H (Ex.refl H) _ fun H1 e1 => ⟨.inl ⟨rfl, _, sq_of (e1 _ _ h)⟩, hb H1 e1 _ fun H2 e2 => ⟨l, b, xs, ys, rfl, rfl, (e1.trans e2) _ _ h, ex_t (e1.trans e2) ht, sz_of hl, k H2 (e1.trans e2)⟩⟩
theorem has_cases_answer {f : Addr} {fd : FuncData} (F : Fun K "cases_answer" "cases_answer" s_cases_answer f fd) (O : Own mg) (g : mg "cases_answer" = some (.ref f)) : Has P w K mg base 1 "cases_answer" ["cases"] (sp_cases_answer K) := by
  refine ⟨f, fd, F.ok sc_cases_answer (fun vs H Q E h => ?_) (fun cdv A outer s H vs Q E hr h => ?_), g, F.kp, F.binds fun _ _ _ _ _ _ us hl => match us, hl with | [_], _ => rfl⟩
  · obtain ⟨_, _, _, rfl, _⟩ := h
    rfl
  · obtain ⟨p, as, cs, rfl, hp, C, hlen, h2, q⟩ := h
    refine ⟨_, (pss_cons (ps_set (i := 1) sc_cases_answer.nd rfl (Or.inl rfl) (pe_lst (pa_cons (pe_callB call_len_seq (by rfl) O.len (by decide +kernel) (pa_cons (pv 0) pa_nil)) pa_nil)))
      (pss_cons (ps_for PassesOwn.never rfl (pi_list (pv 0)) (pg_tup rfl (pgs_cons (pg_name (i := 2) sc_cases_answer.nd rfl (Or.inl rfl)) (pgs_cons (pg_name (i := 3) sc_cases_answer.nd rfl (Or.inl rfl)) pgs_nil))) (pss_cons (ps_expr (pe_bm PySem.F.plainAttrs_list PySem.F.slot_list_append PySem.F.type_list_append mt_append (pv 1) (pa_cons (pv 2) pa_nil)))
      (pss_cons (ps_expr (pe_bm PySem.F.plainAttrs_list PySem.F.slot_list_append PySem.F.type_list_append mt_append (pv 1) (pa_cons (pe_callB call_len_seq (by rfl) O.len (by decide +kernel) (pa_cons (pv 3) pa_nil)) pa_nil)))
      (pss_one (ps_expr (pe_bm PySem.F.plainAttrs_list PySem.F.slot_list_extend PySem.F.type_list_extend mt_extendT (pv 1) (pa_cons (pv 3) pa_nil)))))))
      (pss_one (ps_ret (pv 1))))), ?_⟩
    have hl := C.length
    have hE : EvL (tLst (tCons (tCB (rLenS K) (tCons (tVar 0) tNil)) tNil)) (start ["cases", "numbers", "number", "things"] [.ref p]) H [.int ((as.map V.ref).length : Nat)] := el_lst (ea_cons (ev_len (ev_var rfl) hp) ea_nil) (by simp)
    refine q_asgL hE fun l H1 hl1 e1 h1 => ?_
    have hn : (as.map V.ref).length = cs.length := by rw [List.length_map]; exact hl
    have hgo := goes_list (K := K) (σ := [some (.ref p), some (.ref l), none, none]) (tl := tVar 0) (F := H) (ev_var rfl) hp
    rw [hn] at hgo h1
    refine q_for hgo e1 (fun i σ H' => ∃ a b, σ = [some (.ref p), some (.ref l), a, b] ∧ Ex H H' ∧ H' l = some (.lst (bytesV (cs.length :: numsOf (cs.take i))))) ?_ ?_ ?_ ?_
    · intro H2 e2
      exact ⟨none, none, rfl, e1.trans e2, e2 _ _ h1⟩
    · rintro i σ' H' _ ⟨_, _, _, e, _⟩
      exact e
    · rintro i v σ' H2 H' hi ⟨a, b, rfl, e2, h2l⟩ y
      obtain ⟨rfl, hv⟩ := y
      have hv' : ∃ t, as[i]? = some t ∧ v = .ref t := by
        rw [List.getElem?_map] at hv
        cases ha : as[i]? with
        | none =>
          rw [ha] at hv
          cases hv
        | some t =>
          rw [ha] at hv
          exact ⟨t, rfl, (Option.some.inj hv).symm⟩
      obtain ⟨t, ht, rfl⟩ := hv'
      obtain ⟨c, hc, b', hT, hB⟩ := P2.geta C ht
      have hc2 : c.2.length ≤ 2 := h2 c (List.mem_of_getElem? hc)
      have hnl : (numsOf (cs.take i)).length ≤ 4 * (cs.take i).length := nums_len fun d hd => h2 d (List.mem_of_mem_take hd)
      have htl : (cs.take i).length ≤ cs.length := by rw [List.length_take]; exact Nat.min_le_right _ _
      refine g_pairS (K := K) (ex_t e2 hT) ?_
      have hb : (bytesV (cs.length :: numsOf (cs.take i))).length ≤ 20001 := by
        rw [List.length_map, List.length_cons]
        omega
      refine q_app (K := K) h2l (ev_var rfl) (ev_var (v := .int (c.1 : Nat)) rfl) (by omega) fun H3 e3 => ?_
      have f3 : Ex H (upd H3 l (.lst (bytesV (cs.length :: numsOf (cs.take i)) ++ [.int (c.1 : Nat)]))) := Ex.mut (e2.trans e3) hl1
      generalize hH4 : upd H3 l (.lst (bytesV (cs.length :: numsOf (cs.take i)) ++ [.int (c.1 : Nat)])) = H4 at f3
      have h4 : H4 l = some (.lst (bytesV (cs.length :: numsOf (cs.take i)) ++ [.int (c.1 : Nat)])) := by rw [← hH4, upd_same]
      have hlt : Ev (tCB (rLenS K) (tCons (tVar 3) tNil)) [some (.ref p), some (.ref l), some (.int (c.1 : Nat)), some (.ref b')] H4 (.int (c.2.length : Nat)) := fun H5 e5 Q5 q5 => ⟨_, rfl, b', bytesV c.2, rfl, .inr (ex_t (f3.trans e5) hB), by
        rw [List.length_map]
        exact q5 H5 (Ex.refl H5)⟩
      refine q_app (K := K) h4 (ev_var rfl) hlt (by rw [List.length_append]; simp at hb ⊢; omega) fun H5 e5 => ?_
      have f5 : Ex H (upd H5 l (.lst (bytesV (cs.length :: numsOf (cs.take i)) ++ [.int (c.1 : Nat)] ++ [.int (c.2.length : Nat)]))) := Ex.mut (f3.trans e5) hl1
      generalize hH6 : upd H5 l (.lst (bytesV (cs.length :: numsOf (cs.take i)) ++ [.int (c.1 : Nat)] ++ [.int (c.2.length : Nat)])) = H6 at f5
      have h6 : H6 l = some (.lst (bytesV (cs.length :: numsOf (cs.take i)) ++ [.int (c.1 : Nat)] ++ [.int (c.2.length : Nat)])) := by rw [← hH6, upd_same]
      refine s_extT (K := K) h6 (ev_var rfl) (ev_var rfl) (ex_t f5 hB) (by
        rw [List.length_append, List.length_append, List.length_map, List.length_map]
        rw [List.length_map] at hb
        simp at hb ⊢
        omega) fun H7 e7 => ⟨_, _, rfl, Ex.mut (f5.trans e7) hl1, ?_⟩
      rw [upd_same]
      have : cs.length :: numsOf (cs.take (i + 1)) = (cs.length :: numsOf (cs.take i)) ++ [c.1] ++ [c.2.length] ++ c.2 := by
        rw [take_succ hc]
        unfold numsOf
        rw [List.flatMap_append]
        simp
      rw [this]
      unfold bytesV
      rw [List.map_append, List.map_append, List.map_append]
      rfl
    · rintro σ' H' ⟨a, b, rfl, e, h⟩
      rw [List.take_length] at h
      refine s_ret (ev_var rfl) fun H2 e2 => q l H2 hl1 (e.trans e2) (e2 _ _ h)
end
end KP
set_option Elab.async false
set_option linter.all false
set_option maxRecDepth 100000
set_option maxHeartbeats 800000
/-! deeds.py: what may be done, what is so behind it. -/
namespace KP
open PySem PySem.Spec PyProof.Rows L2 Evl
structure DeedA where
  (b dx w : Addr)
def dF (w : Addr) (a : Pn.Act) : List (Str × V) := [("words", .ref w), ("cost", .int (a.cost : Nat)), ("needs", .int (a.pre : Nat)), ("bars", .int (a.no : Nat)), ("brings", .int (a.add : Nat)), ("takes", .int (a.del : Nat))]
/-- the deed's numbers -/
def DoAt (CD : Addr) (H : Hp) (B : DeedA) (a : Pn.Act) : Prop := H B.b = some (.ins CD B.dx (dF B.w a))
structure DCls (K : PySem.W.Frag) (CD : Addr) : Prop where
  d : Cls K CD
  w : NoAttr K CD "words"
  c : NoAttr K CD "cost"
  n : NoAttr K CD "needs"
  b : NoAttr K CD "bars"
  r : NoAttr K CD "brings"
  t : NoAttr K CD "takes"
theorem and_nat (a b : Nat) : Builtin.bitAnd (a : Int) (b : Int) = ((a.land b : Nat) : Int) := by
  rw [PyProof.Rows.bitAnd_pp (Int.natCast_nonneg _) (Int.natCast_nonneg _), Int.toNat_natCast, Int.toNat_natCast] <;> rfl
theorem or_nat (a b : Nat) : Builtin.bitOr (a : Int) (b : Int) = ((a.lor b : Nat) : Int) := by
  rw [Bits.bitOr_pp (Int.natCast_nonneg _) (Int.natCast_nonneg _), Int.toNat_natCast, Int.toNat_natCast] <;> rfl
theorem land_comm (a b : Nat) : a.land b = b.land a := Nat.and_comm a b
theorem land_le (a b : Nat) : a.land b ≤ a := Nat.and_le_left
theorem within_int (s f : Nat) : decide (Builtin.bitAnd (s : Int) (f : Int) = (f : Int)) = Pn.within f s := by
  rw [and_nat, land_comm]
  unfold Pn.within
  by_cases h : f.land s = f
  · rw [h]
    simp
  · rw [decide_eq_false (by omega)]
    exact (beq_eq_false_iff_ne.mpr h).symm
theorem apart_int (s f : Nat) : decide (Builtin.bitAnd (s : Int) (f : Int) = 0) = Pn.apart f s := by
  rw [and_nat, land_comm]
  unfold Pn.apart
  by_cases h : f.land s = 0
  · rw [h]
    simp
  · rw [decide_eq_false (by omega)]
    exact (beq_eq_false_iff_ne.mpr h).symm
theorem then_int (a : Pn.Act) (s : Nat) : Builtin.bitOr ((s : Int) - Builtin.bitAnd (s : Int) (a.del : Int)) (a.add : Int) = ((a.then_ s : Nat) : Int) := by
  have h := land_le s a.del
  rw [and_nat, show (s : Int) - ((s.land a.del : Nat) : Int) = ((s - s.land a.del : Nat) : Int) by omega, or_nat]
  rfl
section
variable {K : PySem.W.Frag} {mg : Str → Option Value} {P : Program} {w : World} {base : Heap} {CD : Addr}
section
variable {F : Hp} {σ : L2.St} {ta : TE} {B : DeedA} {a : Pn.Act}
theorem ev_dwords (T : DoAt CD F B a) (C : DCls K CD) (ha : Ev ta σ F (.ref B.b)) : Ev (tFld K ta "words") σ F (.ref B.w) := ev_fld ha T C.d C.w lk_here
theorem ev_dcost (T : DoAt CD F B a) (C : DCls K CD) (ha : Ev ta σ F (.ref B.b)) : Ev (tFld K ta "cost") σ F (.int (a.cost : Nat)) := ev_fld ha T C.d C.c ((lk_past (by decide +kernel)).trans lk_here)
theorem ev_dneeds (T : DoAt CD F B a) (C : DCls K CD) (ha : Ev ta σ F (.ref B.b)) : Ev (tFld K ta "needs") σ F (.int (a.pre : Nat)) := ev_fld ha T C.d C.n ((lk_past (by decide +kernel)).trans ((lk_past (by decide +kernel)).trans lk_here))
theorem ev_dbars (T : DoAt CD F B a) (C : DCls K CD) (ha : Ev ta σ F (.ref B.b)) : Ev (tFld K ta "bars") σ F (.int (a.no : Nat)) := ev_fld ha T C.d C.b ((lk_past (by decide +kernel)).trans ((lk_past (by decide +kernel)).trans ((lk_past (by decide +kernel)).trans lk_here)))
theorem ev_dbrings (T : DoAt CD F B a) (C : DCls K CD) (ha : Ev ta σ F (.ref B.b)) : Ev (tFld K ta "brings") σ F (.int (a.add : Nat)) := ev_fld ha T C.d C.r ((lk_past (by decide +kernel)).trans ((lk_past (by decide +kernel)).trans ((lk_past (by decide +kernel)).trans ((lk_past (by decide +kernel)).trans lk_here))))
theorem ev_dtakes (T : DoAt CD F B a) (C : DCls K CD) (ha : Ev ta σ F (.ref B.b)) : Ev (tFld K ta "takes") σ F (.int (a.del : Nat)) := ev_fld ha T C.d C.t ((lk_past (by decide +kernel)).trans ((lk_past (by decide +kernel)).trans ((lk_past (by decide +kernel)).trans ((lk_past (by decide +kernel)).trans ((lk_past (by decide +kernel)).trans lk_here)))))
end
/-! ### has_all -/
abbrev s_has_all : Stmt := top 23
theorem sc_has_all : FnScope ["so", "facts"] ["so", "facts"] (defScope s_has_all) := ⟨rfl, rfl, rfl, by decide +kernel, rfl, by decide +kernel, by decide +kernel⟩
def sp_has_all : Sp := fun vs H Q _ => ∃ s f : Nat, vs = [.int (s : Nat), .int (f : Nat)] ∧ ∀ H2, Ex H H2 → Q (.bl (Pn.within f s)) H2
theorem has_has_all {f : Addr} {fd : FuncData} (F : Fun K "has_all" "has_all" s_has_all f fd) (g : mg "has_all" = some (.ref f)) : Has P w K mg base 1 "has_all" ["so", "facts"] sp_has_all := by
  refine ⟨f, fd, F.ok sc_has_all (fun vs H Q E h => ?_) (fun cdv A outer s H vs Q E hr h => ?_), g, F.kp, F.binds fun _ _ _ _ _ _ us hl => match us, hl with | [_, _], _ => rfl⟩
  · obtain ⟨_, _, rfl, _⟩ := h
    rfl
  · obtain ⟨so, fa, rfl, q⟩ := h
    refine ⟨_, (pss_one (ps_ret (pe_cmpR op_eq (pe_op op_and (pv 0) (pv 1)) (pv 1) (nomark _)))), ?_⟩
    refine s_ret (v := .bl (Pn.within fa so)) (ev_is (ev_op (ev_op (ev_var (v := .int (so : Nat)) rfl) (ev_var (v := .int (fa : Nat)) rfl) rv_I0) (ev_var (v := .int (fa : Nat)) rfl) (rv_eq rfl)) ?_) fun H1 e1 => q H1 e1
    rw [int_eq, within_int]
/-! ### may_be_done -/
abbrev s_may_be_done : Stmt := top 22
theorem sc_may_be_done : FnScope ["deed", "so"] ["deed", "so"] (defScope s_may_be_done) := ⟨rfl, rfl, rfl, by decide +kernel, rfl, by decide +kernel, by decide +kernel⟩
def sp_may (CD : Addr) : Sp := fun vs H Q _ => ∃ (B : DeedA) (a : Pn.Act) (s : Nat), vs = [.ref B.b, .int (s : Nat)] ∧ DoAt CD H B a ∧ ∀ H2, Ex H H2 → Q (.bl (a.may s)) H2
theorem has_may_be_done {f : Addr} {fd : FuncData} (F : Fun K "may_be_done" "may_be_done" s_may_be_done f fd) (C : DCls K CD) (g : mg "may_be_done" = some (.ref f)) (h_has_all : Has P w K mg base 1 "has_all" ["so", "facts"] sp_has_all) : Has P w K mg base 2 "may_be_done" ["deed", "so"] (sp_may CD) := by
  refine ⟨f, fd, F.ok sc_may_be_done (fun vs H Q E h => ?_) (fun cdv A outer s H vs Q E hr h => ?_), g, F.kp, F.binds fun _ _ _ _ _ _ us hl => match us, hl with | [_, _], _ => rfl⟩
  · obtain ⟨_, _, _, rfl, _⟩ := h
    rfl
  · obtain ⟨B, a, so, rfl, T, q⟩ := h
    refine ⟨_, (pss_one (ps_ret (pe_and (pe_own h_has_all (hr.mono (by decide)) rfl (pa_cons (pv 1) (pa_cons (pe_fld (pv 0) (by rfl)) pa_nil))) (pe_one (pe_cmpR op_eq (pe_op op_and (pv 1) (pe_fld (pv 0) (by rfl))) pe_int (nomark _)))))), ?_⟩
    refine s_ret (v := .bl (a.may so)) (ev_andV (a := Pn.within a.pre so) (b := Pn.apart a.no so) (KP.ev_call (ea_cons (ev_var (v := .int (so : Nat)) rfl) (ea_cons (ev_dneeds T C (ev_var rfl)) ea_nil)) fun H1 e1 Q1 q1 => ⟨so, a.pre, rfl, q1⟩) fun _ => ?_) fun H1 e1 => q H1 e1
    refine ev_is (ev_op (ev_op (ev_var (v := .int (so : Nat)) rfl) (ev_dbars T C (ev_var rfl)) rv_I0) ev_c (rv_eq rfl)) ?_
    rw [int_eq, apart_int]
/-! ### so_behind -/
abbrev s_so_behind : Stmt := top 24
theorem sc_so_behind : FnScope ["deed", "so", "left"] ["deed", "so"] (defScope s_so_behind) := ⟨rfl, rfl, rfl, by decide +kernel, rfl, by decide +kernel, by decide +kernel⟩
def sp_behind (CD : Addr) : Sp := fun vs H Q _ => ∃ (B : DeedA) (a : Pn.Act) (s : Nat), vs = [.ref B.b, .int (s : Nat)] ∧ DoAt CD H B a ∧ ∀ H2, Ex H H2 → Q (.int (a.then_ s : Nat)) H2
theorem has_so_behind {f : Addr} {fd : FuncData} (F : Fun K "so_behind" "so_behind" s_so_behind f fd) (C : DCls K CD) (g : mg "so_behind" = some (.ref f)) : Has P w K mg base 1 "so_behind" ["deed", "so"] (sp_behind CD) := by
  refine ⟨f, fd, F.ok sc_so_behind (fun vs H Q E h => ?_) (fun cdv A outer s H vs Q E hr h => ?_), g, F.kp, F.binds fun _ _ _ _ _ _ us hl => match us, hl with | [_, _], _ => rfl⟩
  · obtain ⟨_, _, _, rfl, _⟩ := h
    rfl
  · obtain ⟨B, a, so, rfl, T, q⟩ := h
    refine ⟨_, (pss_cons (ps_set (i := 2) sc_so_behind.nd rfl (Or.inl rfl) (pe_op op_sub (pv 1) (pe_op op_and (pv 1) (pe_fld (pv 0) (by rfl)))))
      (pss_one (ps_ret (pe_op op_or (pv 2) (pe_fld (pv 0) (by rfl)))))), ?_⟩
    refine q_asg (ev_sub (ev_var (v := .int (so : Nat)) rfl) (ev_op (ev_var (v := .int (so : Nat)) rfl) (ev_dtakes T C (ev_var rfl)) rv_I0)) fun H1 e1 => ?_
    have T1 : DoAt CD H1 B a := e1 _ _ T
    refine s_ret (v := .int (a.then_ so : Nat)) (ev_is (ev_op (ev_var rfl) (ev_dbrings T1 C (ev_var rfl)) rv_I0) ?_) fun H2 e2 => q H2 (e1.trans e2)
    rw [then_int]
/-! ### so_behind_all -/
theorem do_get {H : Hp} {ds : List DeedA} {as : List Pn.Act} (h : P2 (DoAt CD H) ds as) {i : Nat} (hi : i < ds.length) : ∃ a, as[i]? = some a ∧ DoAt CD H ds[i] a := P2.geta h (List.getElem?_eq_getElem hi)
abbrev s_so_behind_all : Stmt := top 25
theorem sc_so_behind_all : FnScope ["deeds", "so", "numbers", "number"] ["deeds", "so", "numbers"] (defScope s_so_behind_all) := ⟨rfl, rfl, rfl, by decide +kernel, rfl, by decide +kernel, by decide +kernel⟩
def goneV (o : Option Nat) : V := match o with
  | some s => .int (s : Nat)
  | none => .non
abbrev dRefs (ds : List DeedA) : List V := ds.map fun B => V.ref B.b
def sp_behind_all (K : PySem.W.Frag) (CD : Addr) : Sp := fun vs H Q _ => ∃ (p r : Addr) (ds : List DeedA) (t : Pn.Task) (s : Nat) (l : List Nat), vs = [.ref p, .int (s : Nat), .ref r] ∧ SqL K H p (dRefs ds) ∧ P2 (DoAt CD H) ds t.acts ∧ SqL K H r (bytesV l) ∧ ∀ H2, Ex H H2 → Q (goneV (t.goes s l)) H2
theorem act_at {t : Pn.Task} {k : Nat} {a : Pn.Act} (h : t.acts[k]? = some a) : t.act k = a := by
  unfold Pn.Task.act
  rw [List.getD_eq_getElem?_getD, h] <;> rfl
theorem has_so_behind_all {f : Addr} {fd : FuncData} (F : Fun K "so_behind_all" "so_behind_all" s_so_behind_all f fd) (O : Own mg) (C : DCls K CD) (g : mg "so_behind_all" = some (.ref f)) (h_may_be_done : Has P w K mg base 2 "may_be_done" ["deed", "so"] (sp_may CD)) (h_so_behind : Has P w K mg base 1 "so_behind" ["deed", "so"] (sp_behind CD)) : Has P w K mg base 3 "so_behind_all" ["deeds", "so", "numbers"] (sp_behind_all K CD) := by
  refine ⟨f, fd, F.ok sc_so_behind_all (fun vs H Q E h => ?_) (fun cdv A outer s H vs Q E hr h => ?_), g, F.kp, F.binds fun _ _ _ _ _ _ us hl => match us, hl with | [_, _, _], _ => rfl⟩
  · obtain ⟨_, _, _, _, _, _, rfl, _⟩ := h
    rfl
  · obtain ⟨p, r, ds, t, so, l, rfl, hp, hd, hl, q⟩ := h
    refine ⟨_, (pss_cons (ps_for PassesOwn.never rfl (pi_list (pv 2)) (pg_name (i := 3) sc_so_behind_all.nd rfl (Or.inl rfl)) (pss_cons (ps_if (PW.pt (pw_or (pt_cmpR op_ge (pv 3) (pe_callB call_len_seq (by rfl) O.len (by decide +kernel) (pa_cons (pv 0) pa_nil)) (nomark _)) (pw_or1 (pt_not (pt_val (pe_own h_may_be_done (hr.mono (by decide)) rfl (pa_cons (pe_ix ix_list (pv 0) (pv 3) (fun _ _ => rfl)) (pa_cons (pv 1) pa_nil)))))))) (pss_one (ps_ret pe_non)) pss_nil)
      (pss_one (ps_set (i := 1) sc_so_behind_all.nd rfl (Or.inl rfl) (pe_own h_so_behind (hr.mono (by decide)) rfl (pa_cons (pe_ix ix_list (pv 0) (pv 3) (fun _ _ => rfl)) (pa_cons (pv 1) pa_nil)))))))
      (pss_one (ps_ret (pv 1)))), ?_⟩
    have hlen := hd.length
    have hgo := goes_list (K := K) (F := H) (σ := start ["deeds", "so", "numbers", "number"] [.ref p, .int (so : Nat), .ref r]) (tl := tVar 2) (ev_var rfl) hl
    rw [List.length_map] at hgo
    refine q_for hgo (Ex.refl H) (fun i σ H' => ∃ (u : Nat) (y : Option V), σ = [some (.ref p), some (.int (u : Nat)), some (.ref r), y] ∧ Ex H H' ∧ t.goes so l = t.goes u (l.drop i)) ?_ ?_ ?_ ?_
    · intro H1 e1
      exact ⟨so, none, rfl, e1, rfl⟩
    · rintro i σ' H' _ ⟨_, _, _, e1, _⟩
      exact e1
    · rintro i x σ' H1 H' hi ⟨u, y, rfl, e1, hgo⟩ ⟨rfl, hx⟩
      have hc : l[i]? = some l[i] := List.getElem?_eq_getElem hi
      rw [List.getElem?_map, hc] at hx
      have ex := Option.some.inj hx
      subst ex
      have hdrop : l.drop i = l[i] :: l.drop (i + 1) := List.drop_eq_getElem_cons hi
      rw [hdrop] at hgo
      have hgo2 : t.goes u (l[i] :: l.drop (i + 1)) = if t.can u l[i] = true then t.goes ((t.act l[i]).then_ u) (l.drop (i + 1)) else none := rfl
      rw [hgo2] at hgo
      show tSeq _ _ _ [some (.ref p), some (.int (u : Nat)), some (.ref r), some (.int (l[i] : Nat))] _
      have hpl := ex_l e1 hp
      have item : ∀ {F : Hp}, Ex H F → (hk : l[i] < ds.length) → Ev (tOp (rIxL K) (tVar 0) (tVar 3)) [some (.ref p), some (.int (u : Nat)), some (.ref r), some (.int (l[i] : Nat))] F (.ref (ds[l[i]]'hk).b) := fun {F} eF hk => ev_op (ev_var rfl) (ev_var rfl) (rv_ixL (ex_l eF hp) (atI_nat (by rw [List.getElem?_map, List.getElem?_eq_getElem hk]; rfl)))
      refine q_when (et_or (a := decide ((l[i] : Int) ≥ ((dRefs ds).length : Nat))) (b := !(t.act l[i]).may u) (et_cmpI (ev_var rfl) (ev_len (K := K) (ev_var rfl) hpl)) fun c => et_not (et_B (KP.ev_call (vs := [.ref (ds.getD l[i] ⟨0, 0, 0⟩).b, .int (u : Nat)]) (ea_cons ?_ (ea_cons (ev_var rfl) ea_nil)) ?_))) (fun c H2 e2 => ?_) (fun c H2 e2 => ?_)
      · have hk : l[i] < ds.length := by
          rw [decide_eq_false_iff_not, List.length_map] at c
          omega
        rw [List.getD_eq_getElem?_getD, List.getElem?_eq_getElem hk]
        exact item e1 hk
      · intro H2 e2 Q2 q2
        have hk : l[i] < ds.length := by
          rw [decide_eq_false_iff_not, List.length_map] at c
          omega
        obtain ⟨a, ha, hT⟩ := do_get hd hk
        rw [act_at ha] at q2
        rw [List.getD_eq_getElem?_getD, List.getElem?_eq_getElem hk]
        exact ⟨ds[l[i]], a, u, rfl, (e1.trans e2) _ _ hT, q2⟩
      · refine s_ret (v := .non) ev_c fun H3 e3 => ?_
        have hn : ¬ t.can u l[i] = true := fun hcan => by
          obtain ⟨h1, h2⟩ := can_iff.mp hcan
          rw [Bool.or_eq_true, decide_eq_true_eq, List.length_map, h2] at c
          rcases c with c | c
          · omega
          · cases c
        rw [if_neg hn] at hgo
        have := q H3 ((e1.trans e2).trans e3)
        rw [hgo] at this
        exact this
      · rw [Bool.or_eq_false_iff, decide_eq_false_iff_not, List.length_map] at c
        have hk : l[i] < ds.length := by omega
        have hm : (t.act l[i]).may u = true := by
          have := c.2
          rw [Bool.not_eq_false'] at this
          exact this
        obtain ⟨a, ha, hT⟩ := do_get hd hk
        rw [if_pos (can_iff.mpr ⟨by omega, hm⟩)] at hgo
        have e12 := e1.trans e2
        refine s_asg (v := .int ((t.act l[i]).then_ u : Nat)) (KP.ev_call (ea_cons (item e12 hk) (ea_cons (ev_var rfl) ea_nil)) fun H3 e3 Q3 q3 => ⟨ds[l[i]], a, u, rfl, (e12.trans e3) _ _ hT, by rw [act_at ha] at q3; exact q3⟩) fun H3 e3 => ?_
        exact ⟨_, _, rfl, e12.trans e3, hgo⟩
    · rintro σ' H' ⟨u, y, rfl, e1, hgo⟩
      rw [List.drop_length] at hgo
      refine s_ret (v := .int (u : Nat)) (ev_var rfl) fun H2 e2 => ?_
      have := q H2 (e1.trans e2)
      rw [hgo] at this
      exact this
end
end KP
set_option Elab.async false
set_option linter.all false
set_option maxRecDepth 100000
set_option maxHeartbeats 800000
/-! dict(zip(a, b)) of two lists. -/
namespace KP
open PySem PySem.Spec PyProof.Rows L2 Evl
def rDictZip (K : PySem.W.Frag) : List V → Hp → VK → Prop := fun vs H Q => ∃ (a b : Addr) (ks : List Key) (ys : List V), vs = [.ref a, .ref b] ∧ SqL K H a (ks.map kV) ∧ SqL K H b ys ∧ ∀ p, H p = none → Q (.ref p) (upd H p (.dK (mergeK [] (ks.zip ys))))
theorem kv_zip : ∀ {ks : List Key} {ys : List V} {us : List Value}, Vals ys us → KV (ks.zip ys) (ks.zip us)
  | [], _, _, _ => by
    rw [List.zip_nil_left, List.zip_nil_left]
    exact .nil
  | k :: ks, _, _, .nil => by
    rw [List.zip_nil_right, List.zip_nil_right]
    exact .nil
  | k :: ks, _, _, .cons r t => by
    rw [List.zip_cons_cons, List.zip_cons_cons]
    exact .cons ⟨rfl, r⟩ (kv_zip t)
section
variable {X : Cx} {e e2 : Expr} {ta : TA} {p p2 pos pos2 : Pos}
theorem pe_dictZip (hc : X.calm = true) (hg : Gl X "dict") (hm : X.mg "dict" = none) (hgz : Gl X "zip") (hmz : X.mg "zip" = none) (ha : PA X [e, e2] ta)
    (ho : starEach [.Call (.Name "zip" p2) [e, e2] [] pos2] X.env = (false, eval (.Call (.Name "zip" p2) [e, e2] [] pos2) X.env) :: starEach [] X.env := by rfl)
    (hs : starEach [e, e2] X.env = (false, eval e X.env) :: starEach [e2] X.env := by rfl) (hpl : (backTo pos2 (starEach [e2] X.env)).any (·.1) = false := by rfl) :
    PE X (.Call (.Name "dict" p) [.Call (.Name "zip" p2) [e, e2] [] pos2] [] pos) (tCB (rDictZip X.K) ta) := by
  refine ⟨fun pins s σ H Q I h => ?_⟩
  refine wpAny_Call_Name_kw (ld_blt I hg hm PyProof.Rows.boot_dict ?_)
  refine PyProof.Rows.callWith_type1 ?_ ho (by rfl)
  rw [ho]
  show wpAny _ _ (spliced ((false, eval (.Call (.Name "zip" p2) [e, e2] [] pos2) X.env) :: backTo pos (starEach [] X.env))) _ _ s
  refine Calls.spliced_cons ?_
  refine wpAny_Call_Name_kw (ld_blt I hgz hmz PyProof.Rows.boot_zip ?_)
  refine PyProof.Rows.callWith_type1 (thn (ha.run pos2 pins s σ H _ I h) fun us s1 ⟨vs, H1, I1, r1, q1⟩ => ?_) hs hpl
  obtain ⟨a, b, ks, ys, ex, hka, hyb, q⟩ := q1
  subst ex
  obtain ⟨u1, u2, rfl, ra, rb⟩ := vals2 r1
  cases ra
  cases rb
  obtain ⟨ius, rk, la, _⟩ := I1.list hka
  obtain ⟨ivs, ry, lb, zb⟩ := I1.list hyb
  refine call_zip_2 la.isList lb.isList fun h' hz hTI hTO h1 h2 hsz hk => ?_
  refine Calls.spliced_nil ?_
  have D := PySem.W.ktu_apart s1.heap.objs.size a b la.lt lb.lt
  have hlk := rk.length
  have hly := ry.length
  rw [List.length_map] at hlk
  refine PySem.call_dict_pairs (knd := mixKind X.prog X.w) (kvs := ks.zip ivs) (PySem.PairArg.zip _ _ _ _ _ a b D ius.toArray ivs.toArray) (I1.ok.hd hc) ⟨hz, hTI, ⟨_, _, hTO⟩, h1, h2, la.isList.at fun o e => hk _ o e, lb.isList.at fun o e => hk _ o e⟩ ⟨?_, fun i key v hr => ?_⟩ ?_ fun h2 tk hd hkeep => ?_
  · rw [List.length_zip, List.size_toArray, List.size_toArray, hlk]
  · obtain ⟨e1, e2⟩ := hr
    have e1' : ius[i]? = some key := by simpa using e1
    have e2' : ivs[i]? = some v := by simpa using e2
    have hi : i < ks.length := by
      have := (List.getElem?_eq_some_iff.mp e1').1
      omega
    obtain ⟨u, hu, ru⟩ := rk.get (i := i) (x := kV ks[i]) (by rw [List.getElem?_map, List.getElem?_eq_getElem hi]; rfl)
    rw [e1'] at hu
    have eu := Option.some.inj hu
    subst eu
    exact ⟨ks[i], by rw [List.getElem?_zip_eq_some]; exact ⟨List.getElem?_eq_getElem hi, e2'⟩, kV_is ru⟩
  · refine Nat.le_trans (Nat.min_le_right _ _) ?_
    rw [List.size_toArray, ← hly]
    exact zb
  · have kp : ∀ c o, s1.heap.get? c = some o → h2.get? c = some o := fun c o ec => by
      have hlt := Heap.lt_size ec
      refine hkeep c o (fun hm => ?_) (hk c o ec)
      simp only [List.mem_cons, List.not_mem_nil, or_false] at hm
      rcases hm with z | z | z | z
      · rw [z] at hlt; exact absurd hlt (Nat.not_lt.mpr (Nat.le_add_right _ _))
      · rw [z] at hlt; exact absurd hlt (Nat.not_lt.mpr (Nat.le_add_right _ _))
      · rw [z] at hlt; exact absurd hlt (Nat.lt_irrefl _)
      · rw [z] at hlt; exact absurd hlt (Nat.not_lt.mpr (Nat.le_add_right _ _))
    have hge : s1.heap.objs.size ≤ h'.objs.size := by rw [hsz]; exact Nat.le_add_right _ _
    have hmod : (h'.objs.size == sysModules) = false := beq_eq_false_iff_ne.mpr (Nat.ne_of_gt (Nat.lt_of_lt_of_le I1.big hge))
    have hlen : (mergeK [] (ks.zip ys)).length ≤ sizeLine := by
      refine Nat.le_trans (length_mergeK _ _) ?_
      rw [List.length_nil, Nat.zero_add, List.length_zip]
      exact Nat.le_trans (Nat.min_le_right _ _) zb
    exact ⟨.ref h'.objs.size, upd H1 h'.objs.size (.dK (mergeK [] (ks.zip ys))), I1.laid (t' := tk) kp hge (show ObjOk X.prog X.w _ _ _ (.dK (mergeK [] (ks.zip ys))) from ⟨hlen, hmod, merged [] (ks.zip ivs), KV.merge (kv_zip ry) .nil, hd⟩), rfl, q _ (I1.hok.fresh hge)⟩
end
theorem mergeK_nd : ∀ {ps kvs : List (Key × V)}, (kvs.map Prod.fst ++ ps.map Prod.fst).Nodup → mergeK kvs ps = kvs ++ ps
  | [], kvs, _ => (List.append_nil _).symm
  | p :: ps, kvs, h => by
    show mergeK (putK kvs p.1 p.2) ps = _
    have hn : valV kvs p.1 = none := by
      cases hv : valV kvs p.1 with
      | none => rfl
      | some v =>
        have m := valV_in hv
        have := (List.nodup_append.mp h).2.2 _ m _ (List.mem_cons_self ..)
        exact absurd rfl this
    rw [putK_new _ hn, mergeK_nd (ps := ps) (by
      rw [List.map_append]
      simpa using h)]
    simp
end KP
set_option Elab.async false
set_option linter.all false
set_option maxRecDepth 100000
set_option maxHeartbeats 800000
/-! deeds.py: the deeds that come of a text. -/
namespace KP
open PySem PySem.Spec PyProof.Rows L2 Evl
/-- a tuple, new or in F -/
def EvTu (K : PySem.W.Frag) (te : TE) (σ : L2.St) (F : Hp) (xs : List V) : Prop := ∀ H1, Ex F H1 → ∀ Q : VK, (∀ a H2, Ex H1 H2 → SqT K (glue F H1 H2) a xs → Q (.ref a) H2) → te σ H1 Q
section
variable {K : PySem.W.Frag} {σ : L2.St} {F : Hp} {ta tb : TE}
theorem etu_cat {xs ys : List V} (ha : EvTu K ta σ F xs) (hb : EvTu K tb σ F ys) (hz : xs.length + ys.length ≤ 100000) : EvTu K (tOp (rCatA K) ta tb) σ F (xs ++ ys) := fun H1 e1 Q q =>
  ha H1 e1 _ fun a H2 e2 h2 => hb H2 (e1.trans e2) _ fun b H3 e3 h3 => by
    have eF := (e1.trans e2).trans e3
    have h2' := ex_t (glue_ext (F := F) (H := H1) e3) h2
    have h3' := ex_t (glue_one (F := F) e2 eF) h3
    refine ⟨a, b, xs, ys, rfl, rfl, ex_t (glue_sub eF) h2', ex_t (glue_sub eF) h3, sz_of hz, fun hx => ?_, fun hx hy => ?_, fun hx hy c hc => ?_⟩
    · subst hx
      exact q b H3 (e2.trans e3) h3'
    · subst hy
      refine q a H3 (e2.trans e3) ?_
      rw [List.append_nil]
      exact h2'
    · refine q c _ ((e2.trans e3).trans (Ex.new hc)) (st_of ?_)
      rw [glue_new e1 (fresh_back (e2.trans e3) hc), upd_same]
theorem etu_list {xs : List V} (h : EvL ta σ F xs) : EvTu K (tCB (fun xs H Q => ∃ p ys, xs = [V.ref p] ∧ ((SqL K H p ys ∧ ∀ l, H l = none → Q (.ref l) (upd H l (.tup ys))) ∨ (SqT K H p ys ∧ Q (.ref p) H))) (tCons ta tNil)) σ F xs := fun H1 e1 Q q =>
  h H1 e1 _ fun p H2 hp e2 h2 => ⟨p, xs, rfl, .inl ⟨sq_of h2, fun l hl => q l _ (e2.trans (Ex.new hl)) (st_of (by rw [glue_new e1 (fresh_back e2 hl), upd_same]))⟩⟩
theorem etu_head {c : Addr} {x : V} {xs : List V} (ha : Ev ta σ F (.ref c)) (h : SqT K F c (x :: xs)) : EvTu K (tSl (rSlA K) ta tNoPart (tPart (tC (.int 1)))) σ F [x] := fun H1 e1 Q q =>
  ha H1 e1 _ fun H2 e2 => by
    have hc := ex_t (e1.trans e2) h
    have e0 : HT.sIx (x :: xs).length 0 none = 0 := rfl
    have e1' : HT.sIx (x :: xs).length (x :: xs).length (some 1) = 1 := by
      have := HT.sIx_nat (x :: xs).length (x :: xs).length 1
      rw [show ((1 : Nat) : Int) = 1 from rfl] at this
      rw [this]
      simp
    have ecut : cutV (x :: xs) none (some 1) = [x] := by
      unfold cutV
      rw [e0, e1']
      simp
    refine ⟨1, rfl, c, x :: xs, rfl, hc, fun hw => ?_, fun _ l hl => ?_⟩
    · rw [e1'] at hw
      have hx : xs = [] := by
        have h2 := hw.2
        simp at h2
        exact h2
      subst hx
      exact q c H2 e2 (ex_t glue_F h)
    · refine q l _ (e2.trans (Ex.new hl)) (st_of ?_)
      rw [glue_new e1 (fresh_back e2 hl), upd_same, ecut]
/-- xs[1:] of a tuple -/
theorem eu_tail {c : Addr} {x : V} {xs : List V} (ha : Ev ta σ F (.ref c)) (h : SqT K F c (x :: xs)) : EvU (tSl (rSlA K) ta (tPart (tC (.int 1))) tNoPart) σ F xs := fun H1 e1 Q q =>
  ha H1 e1 _ fun H2 e2 => by
    refine ⟨1, rfl, c, x :: xs, rfl, ex_t (e1.trans e2) h, fun hw => ?_, fun _ l hl => ?_⟩
    · have h0 : HT.sIx (x :: xs).length 0 (some 1) = min 1 (x :: xs).length := HT.sIx_nat _ 0 1
      rw [h0] at hw
      have := hw.1
      simp at this
    · refine q l _ (fresh_back e2 hl) (e2.trans (Ex.new hl)) ?_
      rw [upd_same]
      have := cutN 1 (x :: xs)
      rw [show ((1 : Nat) : Int) = 1 from rfl] at this
      rw [this] <;> rfl
theorem el_call {sp : Sp} {tas : TA} {vs xs : List V} (ha : EvA tas σ F vs) (hs : ∀ H1, Ex F H1 → ∀ Q : VK, (∀ p H2, H1 p = none → Ex H1 H2 → H2 p = some (.lst xs) → Q (.ref p) H2) → sp vs H1 Q E0) : EvL (tCall sp [] E0 tas) σ F xs := fun H1 e Q q =>
  ha H1 e _ fun H2 e2 => by
    show sp (vs ++ []) H2 Q E0
    rw [List.append_nil]
    exact hs H2 (e.trans e2) Q fun p H3 hp e3 h3 => q p H3 (fresh_back e2 hp) (e2.trans e3) h3
end
/-! ### a heap without some lists -/
def wo (H : Hp) (ls : List Addr) : Hp := fun b => if b ∈ ls then none else H b
theorem wo_not {H : Hp} {ls : List Addr} {b : Addr} (h : b ∉ ls) : wo H ls b = H b := if_neg h
theorem wo_in {H : Hp} {ls : List Addr} {b : Addr} (h : b ∈ ls) : wo H ls b = none := if_pos h
theorem wo_sub {H : Hp} {ls : List Addr} : Ex (wo H ls) H := fun b o h => by
  by_cases m : b ∈ ls
  · rw [wo_in m] at h
    cases h
  · rw [wo_not m] at h
    exact h
theorem wo_old {H0 H : Hp} {ls : List Addr} (e : Ex H0 H) (h : ∀ l ∈ ls, H0 l = none) : Ex H0 (wo H ls) := fun b o hb => by
  rw [wo_not fun m => by rw [h b m] at hb; cases hb]
  exact e _ _ hb
/-- an item of a comprehension: what is true of it in F and what is new -/
theorem lc_new {α : Type} {σ : L2.St} {F : Hp} {wi : TI} {te : TE} {xs : List α} {c : α → V} {P : α → V → Hp → Prop} {j : Nat} {vs : List Nat} (hP : ∀ a v G G', Ex G G' → P a v G → P a v G') (G : GoesN wi σ F xs.length (YAt (xs.map c))) (hn : xs.length ≤ 40000) (hw : ∀ x, wipe ((wipe σ vs).set j (some x)) vs = wipe σ vs)
    (he : ∀ a ∈ xs, EvG te ((wipe σ vs).set j (some (c a))) F (P a)) (H0 : Hp) (e0 : Ex F H0) (Q : VK) (q : ∀ l us H2, H0 l = none → Ex H0 H2 → H2 l = some (.lst us) → P2 (fun u a => P a u (wo H2 [l])) us xs → Q (.ref l) H2) : tLc wi (gName j) tYes te vs σ H0 Q :=
  G H0 e0 _ fun J H1 F2 e1 eF2 e3 hf wk => fun Dl hD =>
    lc_it wk (fun i H' => ∃ us, Ex H1 H' ∧ H' Dl = some (.lst us) ∧ P2 (fun u a => P a u (wo H' [Dl])) us (xs.take i)) ⟨[], Ex.new hD, upd_same, .nil⟩ (fun i H' _ z => e3.trans z.choose_spec.1) (fun i x H H' hi z y => by
      obtain ⟨rfl, hx⟩ := y
      obtain ⟨us, z1, z2, z3⟩ := z
      have ha : xs[i]? = some xs[i] := List.getElem?_eq_getElem hi
      rw [List.getElem?_map, ha] at hx
      have ex := Option.some.inj hx
      subst ex
      refine ⟨hw _, ?_⟩
      show te _ H' _
      have eF : Ex F H' := (e0.trans e1).trans z1
      have nF : F Dl = none := fresh_back (e0.trans e1) hD
      refine he xs[i] (List.getElem_mem hi) H' eF _ fun v H4 e4 p4 => ?_
      have hlen := z3.length
      rw [List.length_take] at hlen
      have sub : Ex (glue F H' H4) (wo H4 [Dl]) := fun b o hb => by
        have hne : b ≠ Dl := fun e => by
          rw [e, glue_old nF z2] at hb
          cases hb
        rw [wo_not (by simpa using hne)]
        exact glue_sub (eF.trans e4) _ _ hb
      have sub2 : Ex (wo H' [Dl]) (wo H4 [Dl]) := fun b o hb => by
        have hne : b ∉ [Dl] := fun m => by
          rw [wo_in m] at hb
          cases hb
        rw [wo_not hne] at hb ⊢
        exact e4 _ _ hb
      have same : wo (upd H4 Dl (.lst (us ++ [v]))) [Dl] = wo H4 [Dl] := by
        funext b
        by_cases m : b ∈ [Dl]
        · rw [wo_in m, wo_in m]
        · rw [wo_not m, wo_not m, upd_ne (by simpa using m)]
      refine ⟨us, e4 _ _ z2, sz_lt (by omega), us ++ [v], Ex.mut (z1.trans e4) hD, upd_same, ?_⟩
      rw [same, take_succ ha]
      exact (z3.mono fun u a p => hP a u _ _ sub2 p).snoc (R := fun u a => P a u (wo H4 [Dl])) (hP _ _ _ _ sub p4)) (fun H' z => by
      obtain ⟨us, z1, z2, z3⟩ := z
      rw [List.take_length] at z3
      exact q Dl us H' (fresh_back e1 hD) (e1.trans z1) z2 z3)
section
variable {K : PySem.W.Frag} {mg : Str → Option Value} {P : Program} {w : World} {base : Heap} {CT CA CD dR dC dM tO : Addr}
/-! ### thing_names -/
abbrev s_thing_names : Stmt := top 7
theorem sc_thing_names : FnScope ["text", "things", "number"] ["text", "things"] (defScope s_thing_names) := ⟨rfl, rfl, rfl, by decide +kernel, rfl, by decide +kernel, by decide +kernel⟩
def sp_thing_names (K : PySem.W.Frag) (CT CA : Addr) : Sp := fun vs H Q _ => ∃ (A : TextA) (x : Pn16.Text) (b : Addr) (r : List Nat), vs = [.ref A.a, .ref b] ∧ TextAt CT CA H A x ∧ SqT K H b (bytesV r) ∧ r.length ≤ 100 ∧ (∀ i ∈ r, i < x.things.length) ∧ ∀ l H2, H l = none → Ex H H2 → H2 l = some (.lst (txts (r.map (Pn16.thingName x)))) → Q (.ref l) H2
theorem has_thing_names {f : Addr} {fd : FuncData} (F : Fun K "thing_names" "thing_names" s_thing_names f fd) (C : Clss K CT CA) (g : mg "thing_names" = some (.ref f)) : Has P w K mg base 1 "thing_names" ["text", "things"] (sp_thing_names K CT CA) := by
  refine ⟨f, fd, F.ok sc_thing_names (fun vs H Q E h => ?_) (fun cdv A outer s H vs Q E hr h => ?_), g, F.kp, F.binds fun _ _ _ _ _ _ us hl => match us, hl with | [_, _], _ => rfl⟩
  · obtain ⟨_, _, _, _, rfl, _⟩ := h
    rfl
  · obtain ⟨A, x, b, r, rfl, T, hb, hl, hr1, q⟩ := h
    refine ⟨_, (pss_one (ps_ret (pe_lc (own := [("number", 2)]) (g := gName 2) (tt := tYes) (te := tOp (rIxL K) (tFld K (tVar 0) "things") (tVar 2)) rfl sc_thing_names.nd (pi_tup (pv 1)) (blkOk_by (N := ["text", "things", "number"]) (sc := defScope s_thing_names) (by decide +kernel)) (fun _ _ _ _ _ => (pg_name (i := 2) sc_thing_names.nd rfl (Or.inl rfl))) (fun _ _ _ _ _ => pts_nil) (fun _ _ _ _ _ => (pe_ix ix_list (pe_fld (pv 0) (by rfl)) (pv 2) (fun _ _ => rfl)))))), ?_⟩
    have hgo := goes_tup (K := K) (F := H) (σ := start ["text", "things", "number"] [.ref A.a, .ref b]) (tl := tVar 1) (ev_var rfl) hb
    rw [List.length_map] at hgo
    have hE : EvL (tLc (iTup K (tVar 1)) (gName 2) tYes (tOp (rIxL K) (tFld K (tVar 0) "things") (tVar 2)) [2]) (start ["text", "things", "number"] [.ref A.a, .ref b]) H (r.map fun i => V.str (S (Pn16.thingName x i))) := by
      refine el_map 0 (xs := r) (c := fun i => V.int (i : Nat)) hgo.new (by omega) (fun _ => rfl) fun i hi => ?_
      refine ev_txt (K := K) (ev_things T C (ev_var rfl)) (ev_var rfl) (sq_of T.things) ?_
      exact (name_mem (hr1 i hi)).2
    refine s_retL hE fun l H1 h1 e1 h2 => q l H1 h1 e1 ?_
    rw [h2]
    unfold txts
    rw [List.map_map] <;> rfl
/-! ### filled -/
abbrev s_filled : Stmt := top 21
theorem sc_filled : FnScope ["claim", "thing_in", "name"] ["claim", "thing_in"] (defScope s_filled) := ⟨rfl, rfl, rfl, by decide +kernel, rfl, by decide +kernel, by decide +kernel⟩
def sp_filled (K : PySem.W.Frag) : Sp := fun vs H Q _ => ∃ (F : Hp) (c d : Addr) (w0 : List Nat) (ws : List (List Nat)) (kvs : List (Key × V)) (f : List Nat → List Nat), vs = [.ref c, .ref d] ∧ Ex F H ∧ SqT K F c (txts (w0 :: ws)) ∧ F d = some (.dK kvs) ∧ ws.length ≤ 100 ∧ (∀ u ∈ ws, (valV kvs (Sum.inr (S u))).getD (.str (S u)) = .str (S (f u))) ∧
  ∀ a H2, Ex H H2 → SqT K (glue F H H2) a (txts (w0 :: ws.map f)) → Q (.ref a) H2
theorem has_filled {f : Addr} {fd : FuncData} (F : Fun K "filled" "filled" s_filled f fd) (O : Own mg) (g : mg "filled" = some (.ref f)) : Has P w K mg base 1 "filled" ["claim", "thing_in"] (sp_filled K) := by
  refine ⟨f, fd, F.ok sc_filled (fun vs H Q E h => ?_) (fun cdv A outer s H vs Q E hr h => ?_), g, F.kp, F.binds fun _ _ _ _ _ _ us hl => match us, hl with | [_, _], _ => rfl⟩
  · obtain ⟨_, _, _, _, _, _, _, rfl, _⟩ := h
    rfl
  · obtain ⟨F0, c, d, w0, ws, kvs, fu, rfl, eF, hc, hd, hl, hv, q⟩ := h
    have hu := hu_of hr
    refine ⟨_, (pss_one (ps_ret (pe_op op_catA (pe_slice sl_tupA (pv 0) po_none (po_some pe_int)) (pe_callTy call_tuple_of (by rfl) O.tuple (by decide +kernel) (pa_cons (pe_lc (own := [("name", 2)]) (g := gName 2) (tt := tYes) (te := tDGet2 (tVar 1) (tVar 2) (tVar 2)) rfl sc_filled.nd (pi_tup (pe_slice sl_tupA (pv 0) (po_some pe_int) po_none)) (blkOk_by (N := ["claim", "thing_in", "name"]) (sc := defScope s_filled) (by decide +kernel)) (fun _ _ _ _ _ => (pg_name (i := 2) sc_filled.nd rfl (Or.inl rfl))) (fun _ _ _ _ _ => pts_nil) (fun _ _ _ _ _ => (pe_dget2 hu (pv 1) (pv 2) (pv 2) ⟨by rfl, by rfl, by rfl, by rfl⟩))) pa_nil))))), ?_⟩
    have hgo := goes_newT (K := K) (eu_tail (K := K) (σ := start ["claim", "thing_in", "name"] [.ref c, .ref d]) (ta := tVar 0) (ev_var rfl) hc)
    rw [List.length_map] at hgo
    have hL : EvL (tLc (iTup K (tSl (rSlA K) (tVar 0) (tPart (tC (.int 1))) tNoPart)) (gName 2) tYes (tDGet2 (tVar 1) (tVar 2) (tVar 2)) [2]) (start ["claim", "thing_in", "name"] [.ref c, .ref d]) F0 (ws.map fun u => V.str (S (fu u))) := by
      refine el_map [] (xs := ws) (c := fun u => V.str (S u)) hgo (by omega) (fun _ => rfl) fun u hu1 H1 e1 Q1 q1 => ?_
      have hd1 := e1 _ _ hd
      refine ⟨_, rfl, d, rfl, .inl ⟨kvs, .inl hd1⟩, _, rfl, _, rfl, _, DGet.k (k := Sum.inr (S u)) hd1, ?_⟩
      rw [hv u hu1]
      exact q1 H1 (Ex.refl H1)
    refine etu_cat (K := K) (etu_head (ev_var rfl) hc) (etu_list hL) (by rw [List.length_map]; simp; omega) H eF _ fun a H2 e2 h2 => q a H2 e2 ?_
    have e3 : txts (w0 :: ws.map fu) = [V.str (S w0)] ++ ws.map fun u => V.str (S (fu u)) := by
      unfold txts
      rw [List.map_cons, List.map_map] <;> rfl
    rw [e3]
    exact h2
/-! ### Deed.__init__ -/
abbrev s_deedInit : Stmt := inClass (top 18) 0
theorem sc_deedInit : FnScope ["self", "words", "cost", "sets"] ["self", "words", "cost", "sets"] (defScope s_deedInit) := ⟨rfl, rfl, rfl, by decide +kernel, rfl, by decide +kernel, by decide +kernel⟩
def sp_deedInit (CD : Addr) : Sp := fun vs H Q _ => ∃ (p dx wl sd : Addr) (a : Pn.Act) (kvs : List (Key × V)), vs = [.ref p, .ref wl, .int (a.cost : Nat), .ref sd] ∧ H p = some (.ins CD dx []) ∧ H sd = some (.dK kvs) ∧
  valV kvs (Sum.inr "needs") = some (.int (a.pre : Nat)) ∧ valV kvs (Sum.inr "bars") = some (.int (a.no : Nat)) ∧ valV kvs (Sum.inr "brings") = some (.int (a.add : Nat)) ∧ valV kvs (Sum.inr "takes") = some (.int (a.del : Nat)) ∧
  ∀ H', H' p = some (.ins CD dx (dF wl a)) → (∀ b o, H b = some o → b ≠ p → H' b = some o) → Q .non H'
/-- self.f = e, e a plain value -/
theorem q_newe {H0 H : Hp} {p C dx : Addr} {ls : List Addr} {fs : List (Str × V)} {σ : L2.St} {D : Ends} {tz : TS} {f : Str} {te : TE} (ns : List Str) {v : V} (B : Built H0 p C dx H ls fs) (hσ : σ[0]? = some (some (.ref p))) (he : ∀ Q : VK, Q v H → te σ H Q) (c : Cls K C) (n : NoAttr K C f) (hn : fs.map Prod.fst = ns) (hs : ns.length < 1000) (hf : f ∉ ns)
    (k : ∀ H', Built H0 p C dx H' ls (fs ++ [(f, v)]) → tz D σ H') : tSeq (sFld K (tVar 0) te f) tz D σ H :=
  he _ ⟨_, hσ, p, C, dx, fs, rfl, B.ins, c, n, by rw [← hn, List.length_map] at hs; exact hs, k _ (B.put hn hf)⟩
theorem s_newe {H0 H : Hp} {p C dx : Addr} {ls : List Addr} {fs : List (Str × V)} {σ : L2.St} {D : Ends} {f : Str} {te : TE} (ns : List Str) {v : V} (B : Built H0 p C dx H ls fs) (hσ : σ[0]? = some (some (.ref p))) (he : ∀ Q : VK, Q v H → te σ H Q) (c : Cls K C) (n : NoAttr K C f) (hn : fs.map Prod.fst = ns) (hs : ns.length < 1000) (hf : f ∉ ns)
    (k : ∀ H', Built H0 p C dx H' ls (fs ++ [(f, v)]) → D.nx σ H') : sFld K (tVar 0) te f D σ H :=
  he _ ⟨_, hσ, p, C, dx, fs, rfl, B.ins, c, n, by rw [← hn, List.length_map] at hs; exact hs, k _ (B.put hn hf)⟩
theorem ok_deedInit {f : Addr} {fd : FuncData} (F : Fun K "__init__" "Deed.__init__" s_deedInit f fd) (C : DCls K CD) : FnOk P w K mg base CX0 1 f fd ["self", "words", "cost", "sets"] (sp_deedInit CD) := by
  refine F.ok sc_deedInit (fun vs H Q E h => ?_) (fun cdv A outer s H vs Q E hr h => ?_)
  · obtain ⟨_, _, _, _, _, _, rfl, _⟩ := h
    rfl
  · obtain ⟨p, dx, wl, sd, a, kvs, rfl, hp, hsd, v1, v2, v3, v4, q⟩ := h
    have hu := hu_of hr
    refine ⟨_, (pss_cons (ps_fld (pv 0) (pv 1) rfl)
      (pss_cons (ps_fld (pv 0) (pv 2) rfl)
      (pss_cons (ps_fld (pv 0) (pe_dget hu (pv 3) pe_str (fun _ _ => rfl)) rfl)
      (pss_cons (ps_fld (pv 0) (pe_dget hu (pv 3) pe_str (fun _ _ => rfl)) rfl)
      (pss_cons (ps_fld (pv 0) (pe_dget hu (pv 3) pe_str (fun _ _ => rfl)) rfl)
      (pss_one (ps_fld (pv 0) (pe_dget hu (pv 3) pe_str (fun _ _ => rfl)) rfl))))))), ?_⟩
    have nps : sd ≠ p := ne_of hsd hp fun z => nomatch z
    have get : ∀ {H' : Hp} {ls : List Addr} {fs : List (Str × V)} {z : Str} {v : V} {σ : L2.St}, Built H p CD dx H' ls fs → valV kvs (Sum.inr z) = some v → σ[3]? = some (some (.ref sd)) → ∀ Q : VK, Q v H' → tDGet (tVar 3) (tC (.str z)) σ H' Q := fun {H' ls fs z v σ} B hv hσ Q q => ⟨_, hσ, sd, v, rfl, by
      have := DGet.k (H := H') (a := sd) (kvs := kvs) (k := Sum.inr z) (B.keep _ _ hsd nps)
      rw [hv] at this
      exact this, q⟩
    refine q_newv [] (i := 1) (Built.start hp) rfl rfl C.d C.w rfl (by decide) (by decide +kernel) fun H1 B1 => ?_
    refine q_newv ["words"] (i := 2) B1 rfl rfl C.d C.c rfl (by decide) (by decide +kernel) fun H2 B2 => ?_
    refine q_newe ["words", "cost"] B2 rfl (get B2 v1 rfl) C.d C.n rfl (by decide) (by decide +kernel) fun H3 B3 => ?_
    refine q_newe ["words", "cost", "needs"] B3 rfl (get B3 v2 rfl) C.d C.b rfl (by decide) (by decide +kernel) fun H4 B4 => ?_
    refine q_newe ["words", "cost", "needs", "bars"] B4 rfl (get B4 v3 rfl) C.d C.r rfl (by decide) (by decide +kernel) fun H5 B5 => ?_
    refine s_newe ["words", "cost", "needs", "bars", "brings"] B5 rfl (get B5 v4 rfl) C.d C.t rfl (by decide) (by decide +kernel) fun H6 B6 => ?_
    exact q H6 B6.ins B6.keep
end
end KP
set_option Elab.async false
set_option linter.all false
set_option maxRecDepth 100000
set_option maxHeartbeats 800000
namespace KP
open PySem PySem.Spec PyProof.Rows L2 Evl
theorem P2.refs {β : Type} {R : Addr → β → Prop} : ∀ {us : List V} {bs : List β}, P2 (fun u b => ∃ t, u = V.ref t ∧ R t b) us bs → ∃ cs : List Addr, us = cs.map V.ref ∧ P2 R cs bs
  | _, _, .nil => ⟨[], rfl, .nil⟩
  | _, _, .cons r t => by
    obtain ⟨a, ea, ha⟩ := r
    obtain ⟨cs, ec, hc⟩ := P2.refs t
    exact ⟨a :: cs, by rw [ea, ec]; rfl, .cons ha hc⟩
theorem P2.mapR {α β γ : Type} {R : α → γ → Prop} {f : β → γ} : ∀ {as : List α} {bs : List β}, P2 (fun a b => R a (f b)) as bs → P2 R as (bs.map f)
  | _, _, .nil => .nil
  | _, _, .cons r t => .cons r t.mapR
theorem P2.zipR {α β γ : Type} {R : α → γ → Prop} : ∀ {as : List α} {bs : List β} {cs : List γ}, bs.length = cs.length → P2 (fun a (p : β × γ) => R a p.2) as (bs.zip cs) → P2 R as cs := fun {as bs cs} h p => by
  have := P2.mapR (f := Prod.snd) (R := R) p
  rw [List.map_snd_zip (by omega)] at this
  exact this
theorem zip_mem {α β : Type} {R : α → β → Prop} {a : α} {b : β} : ∀ {as : List α} {bs : List β}, P2 R as bs → (a, b) ∈ as.zip bs → R a b
  | _, _, .nil, m => (nomatch m)
  | _, _, .cons r t, m => by
    rw [List.zip_cons_cons] at m
    rcases List.mem_cons.mp m with e | m
    · cases e
      exact r
    · exact zip_mem t m
/-- one more pair, in order -/
theorem put_next {D : List (Key × V)} (nd : (D.map Prod.fst).Nodup) {i : Nat} {k : Key} {v : V} (h : D[i]? = some (k, v)) : putK (D.take i) k v = D.take (i + 1) := by
  have hi := (List.getElem?_eq_some_iff.mp h).1
  rw [putK_new, take_succ h]
  cases hv : valV (D.take i) k with
  | none => rfl
  | some u =>
    have m := valV_in hv
    obtain ⟨j, hj⟩ := List.mem_iff_getElem?.mp m
    have hj2 := (List.getElem?_eq_some_iff.mp hj).1
    rw [List.length_map, List.length_take] at hj2
    have hjk : (D.map Prod.fst)[j]? = some k := by
      rw [List.getElem?_map] at hj ⊢
      rw [List.getElem?_take_of_lt (by omega)] at hj
      exact hj
    have hik : (D.map Prod.fst)[i]? = some k := by rw [List.getElem?_map, h]; rfl
    obtain ⟨h1, e1⟩ := List.getElem?_eq_some_iff.mp hjk
    obtain ⟨h2, e2⟩ := List.getElem?_eq_some_iff.mp hik
    have := (List.getElem_inj nd).mp (e1.trans e2.symm)
    omega
section
variable {σ : L2.St} {F H : Hp} {te ta tb tc td : TE} {tas : TA} {D : Ends} {tz : TS} {i : Nat}
theorem q_asgQ (h : te σ H fun v H1 => tz D (σ.set i (some v)) H1) : tSeq (tAsg te (gName i)) tz D σ H := h
theorem s_asgQ (h : te σ H fun v H1 => D.nx (σ.set i (some v)) H1) : tAsg te (gName i) D σ H := h
theorem s_retQ (h : te σ H D.rt) : tRet te D σ H := h
theorem cb_of {r : List V → Hp → VK → Prop} {vs : List V} {Q : VK} (ha : EvA tas σ F vs) (e : Ex F H) (h : ∀ H1, Ex H H1 → r vs H1 Q) : tCB r tas σ H Q := ha H e _ h
theorem dput_of {d : Addr} {k : Key} {v : V} {kvs : List (Key × V)} (hv : Ev ta σ F v) (hd : Ev tb σ F (.ref d)) (hk : Ev tc σ F (kV k)) (e : Ex F H) (h : ∀ H1, Ex H H1 → H1 d = some (.dK kvs) ∧ kvs.length < 100000 ∧ D.nx σ (upd H1 d (.dK (putK kvs k v)))) : sDPut tb tc ta D σ H :=
  hv H e _ fun H1 e1 => hd H1 (e.trans e1) _ fun H2 e2 => hk H2 ((e.trans e1).trans e2) _ fun H3 e3 => by
    obtain ⟨h1, h2, h3⟩ := h H3 ((e1.trans e2).trans e3)
    exact ⟨d, _, rfl, DPut.k h1 (sz_lt h2), h3⟩
theorem make3 {C : Addr} {sp : Sp} {xs : List V} {v2 v3 : V} {Q : VK} (h1 : EvL ta σ F xs) (h2 : ∀ H1, Ex F H1 → Ev tb σ H1 v2) (h3 : ∀ H1, Ex F H1 → Ev tc σ H1 v3) (e : Ex F H) (h : ∀ p H1, H p = none → Ex H H1 → H1 p = some (.lst xs) → ∀ x dx, H1 x = none → H1 dx = none → dx ≠ x → sp [.ref x, .ref p, v2, v3] (upd (upd H1 dx (.own x)) x (.ins C dx [])) (fun v H2 => v = .non ∧ Q (.ref x) H2) E0) : tMake C sp [] E0 (tCons ta (tCons tb (tCons tc tNil))) σ H Q :=
  h1 H e _ fun p H1 hp e1 hl => h2 H1 (e.trans e1) H1 (Ex.refl H1) _ fun H2 e2 => h3 H2 ((e.trans e1).trans e2) H2 (Ex.refl H2) _ fun H3 e3 => h p H3 hp ((e1.trans e2).trans e3) ((e2.trans e3) _ _ hl)
end
/-- a deed: its numbers, its words -/
structure DeedAt (CD : Addr) (H : Hp) (B : DeedA) (ws : List (List Nat)) (a : Pn.Act) : Prop where
  ins : DoAt CD H B a
  words : H B.w = some (.lst (txts ws))
theorem DeedAt.mono {CD : Addr} {H H' : Hp} {B : DeedA} {ws : List (List Nat)} {a : Pn.Act} (e : Ex H H') (h : DeedAt CD H B ws a) : DeedAt CD H' B ws a := ⟨e _ _ h.ins, e _ _ h.words⟩
section
variable {K : PySem.W.Frag} {mg : Str → Option Value} {P : Program} {w : World} {base : Heap} {CT CA CD dR dC dM tO : Addr}
/-- what the claims of a sort come to -/
def sortSet (x : Pn16.Text) (s : Pn16.Schema) (r : List Nat) (k : List Nat) : Nat := Pn16.setOf x ((Pn16.litsOf (which k) s).map (Pn16.put r))
def sorts4 : List (List Nat) := [kNeeds, kBars, kBrings, kTakes]
def setsD (x : Pn16.Text) (s : Pn16.Schema) (r : List Nat) : List (Key × V) := sorts4.map fun k => (Sum.inr (S k), V.int (sortSet x s r k : Nat))
theorem setsD_nd (x : Pn16.Text) (s : Pn16.Schema) (r : List Nat) : ((setsD x s r).map Prod.fst).Nodup := by
  have e : (setsD x s r).map Prod.fst = sorts4.map fun k => (Sum.inr (S k) : Key) := by
    unfold setsD
    rw [List.map_map] <;> rfl
  rw [e]
  decide
theorem ofAct_sorts : ∀ k ∈ sorts4, ofAct k = true := by decide
/-- what a place stands for -/
theorem val_zip {x : Pn16.Text} {w : List Nat} : ∀ (ns ts : List (List Nat)), ns.length = ts.length → valV ((ns.map fun n => (Sum.inr (S n) : Key)).zip (txts ts)) (Sum.inr (S w)) = (Pn16.indexOf ns w).map fun i => V.str (S (ts.getD i []))
  | [], [], _ => rfl
  | n :: ns, t :: ts, h => by
    have ih := val_zip (x := x) (w := w) ns ts (by simpa using h)
    show valV ((Sum.inr (S n), V.str (S t)) :: ((ns.map fun n => (Sum.inr (S n) : Key)).zip (txts ts))) (Sum.inr (S w)) = _
    unfold Pn16.indexOf at ih ⊢
    rw [List.idxOf?_cons]
    by_cases e : n = w
    · subst e
      rw [valV_pos rfl]
      simp
    · have e2 : ¬ ((Sum.inr (S n) : Key) = Sum.inr (S w)) := fun z => e (S_inj (Sum.inr.inj z))
      have e3 : (n == w) = false := beq_eq_false_iff_ne.mpr e
      rw [valV_neg e2, ih, e3]
      cases ns.idxOf? w <;> rfl
  | [], _ :: _, h => by simp at h
  | _ :: _, [], h => by simp at h
abbrev s_deed_of : Stmt := top 20
theorem sc_deed_of : FnScope ["text", "facts", "case", "act", "names", "thing_in", "sets", "sort", "claims", "claim"] ["text", "facts", "case"] (defScope s_deed_of) := ⟨rfl, rfl, rfl, by decide +kernel, rfl, by decide +kernel, by decide +kernel⟩
def sp_deed_of (K : PySem.W.Frag) (CT CA CD : Addr) : Sp := fun vs H Q _ => ∃ (A : TextA) (x : Pn16.Text) (fl c b : Addr) (fa : List Addr) (g : Nat × List Nat), vs = [.ref A.a, .ref fl, .ref c] ∧ TextAt CT CA H A x ∧ TextOk x ∧ SqL K H fl (fa.map V.ref) ∧ CasesAt K H fa (Pn16.facts x) ∧ (Pn16.facts x).length ≤ 1000 ∧
  SqT K H c [.int (g.1 : Nat), .ref b] ∧ SqT K H b (bytesV g.2) ∧ g ∈ Pn16.acts x ∧ ∀ B H2, H B.b = none → H B.w = none → Ex H H2 → DeedAt CD H2 B (sayWords x g) (Pn16.actOf x g) → Q (.ref B.b) H2
set_option maxHeartbeats 1600000 in
theorem has_deed_of {f : Addr} {fd : FuncData} (F : Fun K "deed_of" "deed_of" s_deed_of f fd) (O : Own mg) (C : Clss K CT CA) (DC : DCls K CD) (TB : Tabs K w mg dR dC dM tO) (g : mg "deed_of" = some (.ref f)) (MD : Made P w K mg base "Deed" CD ["self", "words", "cost", "sets"] (sp_deedInit CD)) (h_thing_names : Has P w K mg base 1 "thing_names" ["text", "things"] (sp_thing_names K CT CA)) (h_filled : Has P w K mg base 1 "filled" ["claim", "thing_in"] (sp_filled K))
    (h_fact_set : Has P w K mg base 2 "fact_set" ["text", "facts", "claims"] (sp_fact_set K CT CA)) : Has P w K mg base 3 "deed_of" ["text", "facts", "case"] (sp_deed_of K CT CA CD) := by
  refine ⟨f, fd, F.ok sc_deed_of (fun vs H Q E h => ?_) (fun cdv A outer s H vs Q E hr h => ?_), g, F.kp, F.binds fun _ _ _ _ _ _ us hl => match us, hl with | [_, _, _], _ => rfl⟩
  · obtain ⟨_, _, _, _, _, _, _, rfl, _⟩ := h
    rfl
  · obtain ⟨A, x, fl, c, b, fa, gg, rfl, T, hx, hfl, hca, hf8, hc, hb, hg, q⟩ := h
    obtain ⟨fD, fdD, M_Deed, G_Deed, b_Deed⟩ := MD.ex
    have hu := hu_of hr
    refine ⟨_, (pss_cons (ps_set (i := 3) sc_deed_of.nd rfl (Or.inl rfl) (pe_ix ix_list (pe_fld (pv 0) (by rfl)) (pe_ix ix_tup (pv 2) pe_int (fun _ _ => rfl)) (fun _ _ => rfl)))
      (pss_cons (ps_set (i := 4) sc_deed_of.nd rfl (Or.inl rfl) (pe_own h_thing_names (hr.mono (by decide)) rfl (pa_cons (pv 0) (pa_cons (pe_ix ix_tup (pv 2) pe_int (fun _ _ => rfl)) pa_nil))))
      (pss_cons (ps_set (i := 5) sc_deed_of.nd rfl (Or.inr rfl) (pe_dictZip rfl rfl O.dict rfl O.zip (pa_cons (pe_fld (pv 3) (by rfl)) (pa_cons (pv 4) pa_nil))))
      (pss_cons (ps_set (i := 6) sc_deed_of.nd rfl (Or.inl rfl) pe_dnewK)
      (pss_cons (ps_for PassesOwn.never rfl (pi_tup (pe_gref TB.gO rfl)) (pg_name (i := 7) sc_deed_of.nd rfl (Or.inl rfl)) (pss_cons (ps_setLc (i := 8) (own := [("claim", 9)]) (g := gName 9) (tt := tYes) (te := tCall (sp_filled K) [] E0 (tCons (tVar 9) (tCons (tVar 5) tNil))) rfl sc_deed_of.nd rfl rfl (sw_true rfl rfl rfl (by decide +kernel)) (pi_list (pe_dget hu (pe_fld (pv 3) (by rfl)) (pv 7) (fun _ _ => rfl))) (blkOk_by (N := ["text", "facts", "case", "act", "names", "thing_in", "sets", "sort", "claims", "claim"]) (sc := defScope s_deed_of) (by decide +kernel)) (fun _ _ _ _ _ => (pg_name (i := 9) sc_deed_of.nd rfl (Or.inl rfl))) (fun _ _ _ _ _ => pts_nil) (fun _ _ _ _ _ => (pe_own h_filled (hr.mono (by decide)) rfl (pa_cons (pv 9) (pa_cons (pv 5) pa_nil)))))
      (pss_one (ps_dput hu (pv 6) (pv 7) (pe_own h_fact_set (hr.mono (by decide)) rfl (pa_cons (pv 0) (pa_cons (pv 1) (pa_cons (pv 8) pa_nil)))) rfl))))
      (pss_one (ps_ret (pe_make M_Deed G_Deed (hr.mono (by decide)) rfl MD.g b_Deed .nil pass0 (pa_cons (pe_op op_cat (pe_lst (pa_cons (pe_fld (pv 3) (by rfl)) pa_nil)) (pv 4)) (pa_cons (pe_fld (pv 3) (by rfl)) (pa_cons (pv 6) pa_nil))))))))))), ?_⟩
    obtain ⟨sc, hsc, hscD, hscM, fits⟩ := fits_of hg
    have hsok := hx.acts.2.2 sc hscM
    obtain ⟨B, hB, TB0⟩ := P2.get T.as hsc
    have hBl : (A.as.map fun q => V.ref q.b)[gg.1]? = some (.ref B.b) := by rw [List.getElem?_map, hB]; rfl
    have h2 : gg.2.length ≤ 2 := by rw [fits.len]; exact hsok.few
    -- act = text.acts[case[0]]
    refine q_asg (v := .ref B.b) (ev_op (ev_acts T C (ev_var rfl)) (ev_op (ev_var rfl) ev_c (rv_ixT hc (atI_nat (j := 0) rfl))) (rv_ixL (sq_of T.acts) (atI_nat hBl))) fun H1 e1 => ?_
    -- names = thing_names(text, case[1])
    refine q_asgL (xs := txts (gg.2.map (Pn16.thingName x))) (el_call (vs := [.ref A.a, .ref b]) (ea_cons (ev_var rfl) (ea_cons (ev_op (ev_var rfl) ev_c (rv_ixT (ex_t e1 hc) (atI_nat (j := 1) rfl))) ea_nil)) fun H2 e2 Q2 q2 => ⟨A, x, b, gg.2, rfl, T.mono (e1.trans e2), ex_t (e1.trans e2) hb, by omega, fits.args, q2⟩) fun nl H2 hnl e2 h2n => ?_
    have e12 := e1.trans e2
    have TB2 := TB0.mono e12
    -- thing_in = dict(zip(act.places, names))
    have hA : EvA (tCons (tFld K (tVar 3) "places") (tCons (tVar 4) tNil)) [some (.ref A.a), some (.ref fl), some (.ref c), some (.ref B.b), some (.ref nl), none, none, none, none, none] H2 [.ref B.p, .ref nl] := ea_cons (ev_aplaces TB2 C (ev_var rfl)) (ea_cons (ev_var rfl) ea_nil)
    refine q_asgQ (cb_of hA (Ex.refl H2) fun H3 e3 => ?_)
    refine ⟨B.p, nl, (Pn16.names sc.places).map fun n => Sum.inr (S n), txts (gg.2.map (Pn16.thingName x)), rfl, ?_, sq_of (e3 _ _ h2n), fun d hd => ?_⟩
    · rw [List.map_map]
      exact sq_of (e3 _ _ TB2.places)
    have hlen : (Pn16.names sc.places).length = (gg.2.map (Pn16.thingName x)).length := by rw [names_length, List.length_map, fits.len]
    have hmerge : mergeK [] (((Pn16.names sc.places).map fun n => (Sum.inr (S n) : Key)).zip (txts (gg.2.map (Pn16.thingName x)))) = ((Pn16.names sc.places).map fun n => (Sum.inr (S n) : Key)).zip (txts (gg.2.map (Pn16.thingName x))) := by
      rw [mergeK_nd, List.nil_append]
      rw [List.map_nil, List.nil_append, List.map_fst_zip (by rw [List.length_map, List.length_map, ← hlen]; exact Nat.le_refl _)]
      exact nodup_map (fun a b e => S_inj (Sum.inr.inj e)) hsok.apart
    rw [hmerge]
    have e4 : Ex H3 (upd H3 d (.dK (((Pn16.names sc.places).map fun n => (Sum.inr (S n) : Key)).zip (txts (gg.2.map (Pn16.thingName x)))))) := Ex.new hd
    have hd4 : (upd H3 d (.dK (((Pn16.names sc.places).map fun n => (Sum.inr (S n) : Key)).zip (txts (gg.2.map (Pn16.thingName x)))))) d = some (.dK (((Pn16.names sc.places).map fun n => (Sum.inr (S n) : Key)).zip (txts (gg.2.map (Pn16.thingName x))))) := upd_same
    generalize upd H3 d (.dK (((Pn16.names sc.places).map fun n => (Sum.inr (S n) : Key)).zip (txts (gg.2.map (Pn16.thingName x))))) = H4 at e4 hd4
    have e04 := (e12.trans e3).trans e4
    have h4n := (e3.trans e4) _ _ h2n
    have TB4 := TB0.mono e04
    -- sets = {}
    intro sd hsd
    show tSeq _ _ _ [some (.ref A.a), some (.ref fl), some (.ref c), some (.ref B.b), some (.ref nl), some (.ref d), some (.ref sd), none, none, none] _
    have hgo := goes_tup (K := K) (F := H4) (σ := [some (.ref A.a), some (.ref fl), some (.ref c), some (.ref B.b), some (.ref nl), some (.ref d), some (.ref sd), none, none, none]) (tl := tC (.ref tO)) ev_c (TB.ofAct H4)
    refine q_for hgo (Ex.new hsd) (fun i σ H' => ∃ y7 y8 y9, σ = [some (.ref A.a), some (.ref fl), some (.ref c), some (.ref B.b), some (.ref nl), some (.ref d), some (.ref sd), y7, y8, y9] ∧ Ex H4 H' ∧ H' sd = some (.dK ((setsD x sc gg.2).take i))) ?_ ?_ ?_ ?_
    · intro H5 e5
      exact ⟨none, none, none, rfl, (Ex.new hsd).trans e5, e5 _ _ upd_same⟩
    · rintro i σ' H' _ ⟨_, _, _, _, e5, _⟩
      exact e5
    · rintro i v σ' H5 H' hi ⟨y7, y8, y9, rfl, e5, h5s⟩ ⟨rfl, hv⟩
      have hi4 : i < sorts4.length := hi
      have hk : sorts4[i]? = some sorts4[i] := List.getElem?_eq_getElem hi4
      have hkm : sorts4[i] ∈ sorts4 := List.getElem_mem hi4
      have hv2 : V.str (S sorts4[i]) = v := by
        have hv3 : (sorts4.map fun w => V.str (S w))[i]? = some v := hv
        rw [List.getElem?_map, hk] at hv3
        exact Option.some.inj hv3
      subst hv2
      generalize sorts4[i] = k at hk hkm
      show tSeq _ _ _ [some (.ref A.a), some (.ref fl), some (.ref c), some (.ref B.b), some (.ref nl), some (.ref d), some (.ref sd), some (.str (S k)), y8, y9] _
      have hcl := TB4.claims (which k)
      obtain ⟨hcl1, hcl2⟩ := hcl
      obtain ⟨hl6, hlok⟩ := litsOf_ok hsok (which k)
      have hlen2 := hcl2.length
      -- claims = [filled(claim, thing_in) for claim in act.claims[sort]]
      have hzip : ((B.ts (which k)).zip (Pn16.litsOf (which k) sc)).map (fun p => V.ref p.1) = (B.ts (which k)).map V.ref := by
        rw [show (fun p : Addr × Pn16.Lit => V.ref p.1) = V.ref ∘ Prod.fst from rfl, ← List.map_map, List.map_fst_zip (by omega)]
      have hzl : ((B.ts (which k)).zip (Pn16.litsOf (which k) sc)).length = (B.ts (which k)).length := by rw [List.length_zip]; omega
      have hgo2 := goes_list (K := K) (F := H4) (σ := [some (.ref A.a), some (.ref fl), some (.ref c), some (.ref B.b), some (.ref nl), some (.ref d), some (.ref sd), some (.str (S k)), y8, y9]) (tl := tDGet (tFld K (tVar 3) "claims") (tVar 7)) (ev_dget (ev_aclaims TB4 C (ev_var rfl)) (ev_var rfl) TB4.dict (valV_claims B (ofAct_sorts k hkm))) (sq_of hcl1)
      rw [List.length_map, ← hzip, ← hzl] at hgo2
      refine q_asgQ (lc_new (vs := [9]) (j := 9) (xs := (B.ts (which k)).zip (Pn16.litsOf (which k) sc)) (c := fun p => V.ref p.1) (P := fun p v G => ∃ t, v = V.ref t ∧ SqT K G t (txts (saidWords x (Pn16.put gg.2 p.2)))) (fun a v G G' e ⟨t, h1, h2⟩ => ⟨t, h1, ex_t e h2⟩) hgo2.new (by omega) (fun _ => rfl) (fun p hp => ?_) H' e5 _ fun cl us H6 hcl0 e6 h6 p6 => ?_)
      · obtain ⟨tp, lit⟩ := p
        have htp := zip_mem hcl2 hp
        have hlit := hlok lit (List.of_mem_zip hp).2
        refine eg_call (vs := [.ref tp, .ref d]) (fun v G G' e ⟨t, h1, h2⟩ => ⟨t, h1, ex_t e h2⟩) (ea_cons (ev_var rfl) (ea_cons (ev_var rfl) ea_nil)) fun H7 e7 Q7 q7 => ?_
        refine ⟨H4, tp, d, Pn16.factName x lit.1, lit.2.map (Pn16.argName x sc), _, fill x sc gg.2, rfl, e7, st_of htp, hd4, by rw [List.length_map]; have := lit_two hx hlit; omega, fun u hu1 => ?_, fun a H8 e8 h8 => q7 _ H8 e8 ⟨a, rfl, ?_⟩⟩
        · rw [val_zip (x := x) _ _ hlen]
          unfold fill
          cases hix : Pn16.indexOf (Pn16.names sc.places) u with
          | none => rfl
          | some j =>
            have hj : j < gg.2.length := by
              have := (index_some hix).1
              rw [names_length] at this
              rw [fits.len]
              exact this
            show V.str (S ((gg.2.map (Pn16.thingName x)).getD j [])) = V.str (S (Pn16.thingName x (gg.2.getD j 0)))
            rw [List.getD_eq_getElem?_getD, List.getElem?_map, List.getD_eq_getElem?_getD, List.getElem?_eq_getElem hj] <;> rfl
        · rw [fill_lit hsok hlit] at h8
          exact h8
      · obtain ⟨cs, ecs, hcs⟩ := P2.refs p6
        subst ecs
        have hcs2 := P2.zipR hlen2 (R := fun a (l : Pn16.Lit) => SqT K (wo H6 [cl]) a (txts (saidWords x (Pn16.put gg.2 l)))) hcs
        have hcs3 := P2.mapR (R := fun a (fc : Nat × List Nat) => SqT K (wo H6 [cl]) a (txts (saidWords x fc))) (f := Pn16.put gg.2) hcs2
        have hcs4 : P2 (fun a (fc : Nat × List Nat) => SqT K H6 a (txts (saidWords x fc))) cs ((Pn16.litsOf (which k) sc).map (Pn16.put gg.2)) := hcs3.mono fun _ _ z => ex_t wo_sub z
        have e06 := (e04.trans e5).trans e6
        -- sets[sort] = fact_set(text, facts, claims)
        show sDPut _ _ _ _ [some (.ref A.a), some (.ref fl), some (.ref c), some (.ref B.b), some (.ref nl), some (.ref d), some (.ref sd), some (.str (S k)), some (.ref cl), y9] H6
        refine dput_of (F := H6) (kvs := (setsD x sc gg.2).take i) (k := Sum.inr (S k)) (v := .int (sortSet x sc gg.2 k : Nat)) (KP.ev_call (vs := [.ref A.a, .ref fl, .ref cl]) (ea_cons (ev_var rfl) (ea_cons (ev_var rfl) (ea_cons (ev_var rfl) ea_nil))) fun H7 e7 Q7 q7 => ⟨A, x, fl, cl, fa, cs, (Pn16.litsOf (which k) sc).map (Pn16.put gg.2), rfl, T.mono (e06.trans e7), hx, ex_l (e06.trans e7) hfl, hca.mono (e06.trans e7), sq_of (e7 _ _ h6), hcs4.mono fun _ _ z => ex_t e7 z, fun fc hfc => ?_, hf8, q7⟩) (ev_var rfl) (ev_var rfl) (Ex.refl H6) fun H7 e7 => ⟨(e6.trans e7) _ _ h5s, by rw [List.length_take]; show min i 4 < 100000; omega, ?_⟩
        · obtain ⟨l, hl, rfl⟩ := List.mem_map.mp hfc
          exact put_ok fits (hlok l hl)
        · have hDi : (setsD x sc gg.2)[i]? = some (Sum.inr (S k), V.int (sortSet x sc gg.2 k : Nat)) := by
            unfold setsD
            rw [List.getElem?_map, hk] <;> rfl
          refine ⟨_, _, _, rfl, fun b' o' hb' => ?_, ?_⟩
          · have hne : b' ≠ sd := fun e => by
              rw [e, hsd] at hb'
              cases hb'
            rw [upd_ne hne]
            exact ((e5.trans e6).trans e7) _ _ hb'
          · rw [upd_same, put_next (setsD_nd x sc gg.2) hDi]
    · rintro σ' H5 ⟨y7, y8, y9, rfl, e5, h5s⟩
      have e05 := e04.trans e5
      have TB5 := TB0.mono e05
      have h5s' : H5 sd = some (.dK (setsD x sc gg.2)) := by
        rw [h5s, List.take_of_length_le]
        exact Nat.le_refl 4
      -- Deed([act.name] + names, act.cost, sets)
      have hL : EvL (tOp rCat (tLst (tCons (tFld K (tVar 3) "name") tNil)) (tVar 4)) [some (.ref A.a), some (.ref fl), some (.ref c), some (.ref B.b), some (.ref nl), some (.ref d), some (.ref sd), y7, y8, y9] H5 ([V.str (S sc.name)] ++ txts (gg.2.map (Pn16.thingName x))) := fun H6 e6 Q6 q6 =>
        el_lst (ea_cons (ev_aname TB5 C (ev_var rfl)) ea_nil) (by simp) H6 e6 _ fun l H7 hl e7 h7 => ⟨_, rfl, l, nl, _, _, rfl, rfl, h7, ((e5.trans e6).trans e7) _ _ h4n, sz_of (by rw [List.length_map, List.length_map]; simp; omega), fun p hp => q6 p _ (fresh_back e7 hp) (e7.trans (Ex.new hp)) upd_same⟩
      refine s_retQ (make3 hL (fun H6 e6 => ev_acost (TB5.mono e6) C (ev_var rfl)) (fun H6 e6 => ev_var (v := .ref sd) rfl) (Ex.refl H5) fun wl H7 hwl e57 h7w p dx hp hdx hne => ?_)
      have hpd : p ≠ dx := hne.symm
      have h7s := e57 _ _ h5s'
      have ed : ∀ b' o', H7 b' = some o' → b' ≠ p → b' ≠ dx := fun b' o' hb' _ => ne_of_none hb' hdx
      have up : ∀ b' o', H7 b' = some o' → (upd (upd H7 dx (.own p)) p (.ins CD dx [])) b' = some o' := fun b' o' hb' => by
        rw [upd_ne (ne_of_none hb' hp), upd_ne (ne_of_none hb' hdx)]
        exact hb'
      have hval : ∀ k ∈ sorts4, valV (setsD x sc gg.2) (Sum.inr (S k)) = some (.int (sortSet x sc gg.2 k : Nat)) := fun k hk => by
        unfold sorts4 at hk
        simp only [List.mem_cons, List.not_mem_nil, or_false] at hk
        have n1 : ¬ ((Sum.inr (S kNeeds) : Key) = Sum.inr (S kBars)) := by decide
        have n2 : ¬ ((Sum.inr (S kNeeds) : Key) = Sum.inr (S kBrings)) := by decide
        have n3 : ¬ ((Sum.inr (S kBars) : Key) = Sum.inr (S kBrings)) := by decide
        have n4 : ¬ ((Sum.inr (S kNeeds) : Key) = Sum.inr (S kTakes)) := by decide
        have n5 : ¬ ((Sum.inr (S kBars) : Key) = Sum.inr (S kTakes)) := by decide
        have n6 : ¬ ((Sum.inr (S kBrings) : Key) = Sum.inr (S kTakes)) := by decide
        unfold setsD sorts4
        simp only [List.map_cons, List.map_nil]
        rcases hk with rfl | rfl | rfl | rfl
        · exact valV_pos rfl
        · exact (valV_neg n1).trans (valV_pos rfl)
        · exact (valV_neg n2).trans ((valV_neg n3).trans (valV_pos rfl))
        · exact (valV_neg n4).trans ((valV_neg n5).trans ((valV_neg n6).trans (valV_pos rfl)))
      have eact : Pn16.actOf x gg = ⟨sortSet x sc gg.2 kNeeds, sortSet x sc gg.2 kBars, sortSet x sc gg.2 kBrings, sortSet x sc gg.2 kTakes, sc.cost⟩ := by
        show (⟨Pn16.setOf x ((x.acts.getD gg.1 Pn16.none_).needs.map (Pn16.put gg.2)), Pn16.setOf x ((x.acts.getD gg.1 Pn16.none_).bars.map (Pn16.put gg.2)), Pn16.setOf x ((x.acts.getD gg.1 Pn16.none_).brings.map (Pn16.put gg.2)), Pn16.setOf x ((x.acts.getD gg.1 Pn16.none_).takes.map (Pn16.put gg.2)), (x.acts.getD gg.1 Pn16.none_).cost⟩ : Pn.Act) = _
        rw [hscD]
        rfl
      refine ⟨p, dx, wl, sd, Pn16.actOf x gg, setsD x sc gg.2, ?_, upd_same, up _ _ h7s, ?_, ?_, ?_, ?_, fun H8 h8 k8 => ⟨rfl, ?_⟩⟩
      · rw [eact] <;> rfl
      · rw [key_needs, eact]
        exact hval kNeeds (by simp [sorts4])
      · rw [key_bars, eact]
        exact hval kBars (by simp [sorts4])
      · rw [key_brings, eact]
        exact hval kBrings (by simp [sorts4])
      · rw [key_takes, eact]
        exact hval kTakes (by simp [sorts4])
      · have e78 : Ex H7 H8 := fun b' o' hb' => k8 b' o' (up _ _ hb') (ne_of_none hb' hp)
        refine q ⟨p, dx, wl⟩ H8 (fresh_back (e05.trans e57) hp) (fresh_back e05 hwl) ((e05.trans e57).trans e78) ⟨h8, ?_⟩
        rw [e78 _ _ h7w]
        unfold sayWords
        rw [hscD] <;> rfl
/-! ### all_deeds -/
theorem P2.deeds {β : Type} {R : DeedA → β → Prop} : ∀ {us : List V} {bs : List β}, P2 (fun u b => ∃ t : DeedA, u = V.ref t.b ∧ R t b) us bs → ∃ ds : List DeedA, us = dRefs ds ∧ P2 R ds bs
  | _, _, .nil => ⟨[], rfl, .nil⟩
  | _, _, .cons r t => by
    obtain ⟨a, ea, ha⟩ := r
    obtain ⟨cs, ec, hc⟩ := P2.deeds t
    exact ⟨a :: cs, by rw [ea, ec]; rfl, .cons ha hc⟩
abbrev s_all_deeds : Stmt := top 19
theorem sc_all_deeds : FnScope ["text", "facts", "acts", "case"] ["text", "facts", "acts"] (defScope s_all_deeds) := ⟨rfl, rfl, rfl, by decide +kernel, rfl, by decide +kernel, by decide +kernel⟩
def DeedsAt (CD : Addr) (H : Hp) (x : Pn16.Text) (ds : List DeedA) (gs : List (Nat × List Nat)) : Prop := P2 (fun B g => DeedAt CD H B (sayWords x g) (Pn16.actOf x g)) ds gs
def sp_all_deeds (K : PySem.W.Frag) (CT CA CD : Addr) : Sp := fun vs H Q _ => ∃ (A : TextA) (x : Pn16.Text) (fl al : Addr) (fa aa : List Addr), vs = [.ref A.a, .ref fl, .ref al] ∧ TextAt CT CA H A x ∧ TextOk x ∧ SqL K H fl (fa.map V.ref) ∧ CasesAt K H fa (Pn16.facts x) ∧ (Pn16.facts x).length ≤ 1000 ∧ SqL K H al (aa.map V.ref) ∧ CasesAt K H aa (Pn16.acts x) ∧ (Pn16.acts x).length ≤ 1000 ∧
  ∀ l ds H2, H l = none → Ex H H2 → H2 l = some (.lst (dRefs ds)) → DeedsAt CD H2 x ds (Pn16.acts x) → (∀ B ∈ ds, H B.w = none) → Q (.ref l) H2
theorem has_all_deeds {f : Addr} {fd : FuncData} (F : Fun K "all_deeds" "all_deeds" s_all_deeds f fd) (g : mg "all_deeds" = some (.ref f)) (h_deed_of : Has P w K mg base 3 "deed_of" ["text", "facts", "case"] (sp_deed_of K CT CA CD)) : Has P w K mg base 4 "all_deeds" ["text", "facts", "acts"] (sp_all_deeds K CT CA CD) := by
  refine ⟨f, fd, F.ok sc_all_deeds (fun vs H Q E h => ?_) (fun cdv A outer s H vs Q E hr h => ?_), g, F.kp, F.binds fun _ _ _ _ _ _ us hl => match us, hl with | [_, _, _], _ => rfl⟩
  · obtain ⟨_, _, _, _, _, _, rfl, _⟩ := h
    rfl
  · obtain ⟨A, x, fl, al, fa, aa, rfl, T, hx, hfl, hca, hf8, hal, haa, ha8, q⟩ := h
    refine ⟨_, (pss_one (ps_ret (pe_lc (own := [("case", 3)]) (g := gName 3) (tt := tYes) (te := tCall (sp_deed_of K CT CA CD) [] E0 (tCons (tVar 0) (tCons (tVar 1) (tCons (tVar 3) tNil)))) rfl sc_all_deeds.nd (pi_list (pv 2)) (blkOk_by (N := ["text", "facts", "acts", "case"]) (sc := defScope s_all_deeds) (by decide +kernel)) (fun _ _ _ _ _ => (pg_name (i := 3) sc_all_deeds.nd rfl (Or.inl rfl))) (fun _ _ _ _ _ => pts_nil) (fun _ _ _ _ _ => (pe_own h_deed_of (hr.mono (by decide)) rfl (pa_cons (pv 0) (pa_cons (pv 1) (pa_cons (pv 3) pa_nil)))))))), ?_⟩
    have hlen := haa.length
    have hzip : (aa.zip (Pn16.acts x)).map (fun p => V.ref p.1) = aa.map V.ref := by
      rw [show (fun p : Addr × (Nat × List Nat) => V.ref p.1) = V.ref ∘ Prod.fst from rfl, ← List.map_map, List.map_fst_zip (by omega)]
    have hzl : (aa.zip (Pn16.acts x)).length = aa.length := by rw [List.length_zip]; omega
    have hgo := goes_list (K := K) (F := H) (σ := start ["text", "facts", "acts", "case"] [.ref A.a, .ref fl, .ref al]) (tl := tVar 2) (ev_var rfl) hal
    rw [List.length_map, ← hzip, ← hzl] at hgo
    refine s_retQ (lc_new (vs := [3]) (j := 3) (xs := aa.zip (Pn16.acts x)) (c := fun p => V.ref p.1) (P := fun p v G => ∃ B : DeedA, v = V.ref B.b ∧ H B.w = none ∧ DeedAt CD G B (sayWords x p.2) (Pn16.actOf x p.2)) (fun a v G G' e ⟨B, h1, h2, h3⟩ => ⟨B, h1, h2, h3.mono e⟩) hgo.new (by omega) (fun _ => rfl) (fun p hp => ?_) H (Ex.refl H) _ fun l us H2 hl e2 h2 p2 => ?_)
    · obtain ⟨c, gg⟩ := p
      obtain ⟨b, hc, hb⟩ := zip_mem haa hp
      refine eg_call (vs := [.ref A.a, .ref fl, .ref c]) (fun v G G' e ⟨B, h1, h2, h3⟩ => ⟨B, h1, h2, h3.mono e⟩) (ea_cons (ev_var rfl) (ea_cons (ev_var rfl) (ea_cons (ev_var rfl) ea_nil))) fun H1 e1 Q1 q1 => ?_
      exact ⟨A, x, fl, c, b, fa, gg, rfl, T.mono e1, hx, ex_l e1 hfl, hca.mono e1, hf8, ex_t e1 hc, ex_t e1 hb, (List.of_mem_zip hp).2, fun B H2 hB hW e2 D2 => q1 _ H2 e2 ⟨B, rfl, fresh_back e1 hW, ⟨by
        show glue H H1 H2 B.b = _
        rw [glue_new e1 hB]
        exact D2.ins, by
        rw [glue_new e1 hW]
        exact D2.words⟩⟩⟩
    · obtain ⟨ds, eds, hds⟩ := P2.deeds p2
      subst eds
      have h1 := P2.zipR hlen (R := fun (B : DeedA) (gg : Nat × List Nat) => H B.w = none ∧ DeedAt CD (wo H2 [l]) B (sayWords x gg) (Pn16.actOf x gg)) hds
      refine q l ds H2 hl e2 h2 (h1.mono fun _ _ z => z.2.mono wo_sub) fun B hB => ?_
      obtain ⟨_, _, z⟩ := P2.mem h1 hB
      exact z.1
end
end KP
set_option Elab.async false
set_option linter.all false
set_option maxRecDepth 100000
set_option maxHeartbeats 800000
/-! house.py: the house; read_answer. -/
namespace KP
open PySem PySem.Spec PyProof.Rows L2 Evl
structure HouseA where
  (h dx : Addr)
  (A : TextA)
  (fl al dl : Addr)
  (fa aa : List Addr)
  (ds : List DeedA)
def h6F (a b c d : Addr) (f w : Nat) : List (Str × V) := [("text", .ref a), ("facts", .ref b), ("acts", .ref c), ("deeds", .ref d), ("first", .int (f : Nat)), ("wanted", .int (w : Nat))]
def hF (B : HouseA) (x : Pn16.Text) : List (Str × V) := h6F B.A.a B.fl B.al B.dl (Pn16.setOf x x.now) (Pn16.setOf x x.want)
def HouseA.lists (B : HouseA) : List Addr := B.fl :: B.al :: B.dl :: (B.ds.map DeedA.w ++ B.A.lists)
structure HouseAt (K : PySem.W.Frag) (CT CA CH CD : Addr) (H : Hp) (B : HouseA) (x : Pn16.Text) : Prop where
  ins : H B.h = some (.ins CH B.dx (hF B x))
  text : TextAt CT CA H B.A x
  facts : H B.fl = some (.lst (B.fa.map V.ref))
  fa : CasesAt K H B.fa (Pn16.facts x)
  acts : H B.al = some (.lst (B.aa.map V.ref))
  aa : CasesAt K H B.aa (Pn16.acts x)
  deeds : H B.dl = some (.lst (dRefs B.ds))
  ds : DeedsAt CD H x B.ds (Pn16.acts x)
structure HCls (K : PySem.W.Frag) (CT CA CH CD : Addr) : Prop where
  h : Cls K CH
  t : NoAttr K CH "text"
  f : NoAttr K CH "facts"
  a : NoAttr K CH "acts"
  d : NoAttr K CH "deeds"
  s : NoAttr K CH "first"
  w : NoAttr K CH "wanted"
  dT : CT ≠ CH
  dA : CA ≠ CH
  dD : CD ≠ CH
section
variable {K : PySem.W.Frag} {mg : Str → Option Value} {P : Program} {w : World} {base : Heap} {CT CA CH CD dR dC dM tO : Addr}
theorem DeedsAt.mono {H H' : Hp} {x : Pn16.Text} {ds : List DeedA} {gs : List (Nat × List Nat)} (e : Ex H H') (h : DeedsAt CD H x ds gs) : DeedsAt CD H' x ds gs := P2.mono (fun _ _ z => z.mono e) h
theorem HouseAt.mono {H H' : Hp} {B : HouseA} {x : Pn16.Text} (e : Ex H H') (h : HouseAt K CT CA CH CD H B x) : HouseAt K CT CA CH CD H' B x := ⟨e _ _ h.ins, h.text.mono e, e _ _ h.facts, h.fa.mono e, e _ _ h.acts, h.aa.mono e, e _ _ h.deeds, h.ds.mono e⟩
/-- the instance at h is another one, all else stands -/
structure InsKept (N N' : Hp) (h CH : Addr) : Prop where
  was : ∃ dx fs, N h = some (.ins CH dx fs)
  keep : ∀ b o, N b = some o → b ≠ h → N' b = some o
section
variable {N N' : Hp} {h : Addr}
theorem InsKept.lst {b : Addr} {xs : List V} (k : InsKept N N' h CH) (z : N b = some (.lst xs)) : N' b = some (.lst xs) := by
  obtain ⟨_, _, hy⟩ := k.was
  exact k.keep b _ z (ne_of z hy fun z => nomatch z)
theorem InsKept.tup {b : Addr} {xs : List V} (k : InsKept N N' h CH) (z : N b = some (.tup xs)) : N' b = some (.tup xs) := by
  obtain ⟨_, _, hy⟩ := k.was
  exact k.keep b _ z (ne_of z hy fun z => nomatch z)
theorem InsKept.dct {b : Addr} {kvs : List (Key × V)} (k : InsKept N N' h CH) (z : N b = some (.dK kvs)) : N' b = some (.dK kvs) := by
  obtain ⟨_, _, hy⟩ := k.was
  exact k.keep b _ z (ne_of z hy fun z => nomatch z)
theorem InsKept.ins {b C dx : Addr} {fs : List (Str × V)} (k : InsKept N N' h CH) (hC : C ≠ CH) (z : N b = some (.ins C dx fs)) : N' b = some (.ins C dx fs) := by
  obtain ⟨_, _, hy⟩ := k.was
  exact k.keep b _ z (ne_of z hy fun z => by cases z; exact hC rfl)
theorem InsKept.sqT {b : Addr} {xs : List V} (k : InsKept N N' h CH) (z : SqT K N b xs) : SqT K N' b xs := by
  obtain ⟨_, _, hy⟩ := k.was
  rcases z with (z | ⟨o, z⟩) | z
  · exact .inl (.inl (k.tup z))
  · exact .inl (.inr ⟨o, k.keep b _ z (ne_of z hy fun z => nomatch z)⟩)
  · exact .inr z
theorem InsKept.claims {x : Pn16.Text} {s : Pn16.Schema} {c : Addr} {ts : List Addr} {ls : List Pn16.Lit} (k : InsKept N N' h CH) (z : ClaimsAt N x s c ts ls) : ClaimsAt N' x s c ts ls := ⟨k.lst z.1, z.2.mono fun _ _ y => k.tup y⟩
theorem InsKept.act {x : Pn16.Text} {B : ActA} {s : Pn16.Schema} (k : InsKept N N' h CH) (hC : CA ≠ CH) (z : ActAt CA N x B s) : ActAt CA N' x B s := ⟨k.ins hC z.ins, k.lst z.places, k.lst z.kinds, k.dct z.dict, k.claims z.needs, k.claims z.bars, k.claims z.brings, k.claims z.takes⟩
theorem InsKept.text {x : Pn16.Text} {A : TextA} (k : InsKept N N' h CH) (C : HCls K CT CA CH CD) (T : TextAt CT CA N A x) : TextAt CT CA N' A x :=
  ⟨k.ins C.dT T.ins, k.lst T.kinds, k.lst T.things, k.lst T.thingKinds, k.lst T.facts, k.lst T.factKinds, T.fks.mono fun _ _ z => k.lst z, k.lst T.acts, T.as.mono fun _ _ z => k.act C.dA z, k.lst T.now, T.ns.mono fun _ _ z => k.tup z, k.lst T.want, T.ws.mono fun _ _ z => k.tup z⟩
theorem InsKept.cases {as : List Addr} {cs : List (Nat × List Nat)} (k : InsKept N N' h CH) (z : CasesAt K N as cs) : CasesAt K N' as cs := P2.mono (fun _ _ ⟨b, h1, h2⟩ => ⟨b, k.sqT h1, k.sqT h2⟩) z
theorem InsKept.deeds {x : Pn16.Text} {ds : List DeedA} {gs : List (Nat × List Nat)} (k : InsKept N N' h CH) (hC : CD ≠ CH) (z : DeedsAt CD N x ds gs) : DeedsAt CD N' x ds gs := P2.mono (fun _ _ d => ⟨k.ins hC d.ins, k.lst d.words⟩) z
theorem InsKept.ext {N2 : Hp} (k : InsKept N N' h CH) (e : Ex N' N2) : InsKept N N2 h CH := ⟨k.was, fun b o hb hn => e _ _ (k.keep b o hb hn)⟩
theorem InsKept.put {o : HO} (k : InsKept N N' h CH) : InsKept N (upd N' h o) h CH := ⟨k.was, fun b u hb hn => by rw [upd_ne hn]; exact k.keep b u hb hn⟩
theorem Kept.sqT {l b : Addr} {xs : List V} (k : Kept N N' l) (z : SqT K N b xs) : SqT K N' b xs := by
  obtain ⟨_, hy⟩ := k.was
  rcases z with (z | ⟨o, z⟩) | z
  · exact .inl (.inl (k.tup z))
  · exact .inl (.inr ⟨o, k.keep b _ z (ne_of z hy fun z => nomatch z)⟩)
  · exact .inr z
theorem Kept.cases {l : Addr} {as : List Addr} {cs : List (Nat × List Nat)} (k : Kept N N' l) (z : CasesAt K N as cs) : CasesAt K N' as cs := P2.mono (fun _ _ ⟨b, h1, h2⟩ => ⟨b, k.sqT h1, k.sqT h2⟩) z
theorem Kept.text {l : Addr} {x : Pn16.Text} {A : TextA} (k : Kept N N' l) (T : TextAt CT CA N A x) (hn : l ∉ A.lists) : TextAt CT CA N' A x := by
  have hh : ∀ {b}, b ∈ A.heads → b ≠ l := fun hb e => hn (e ▸ List.mem_append_left _ hb)
  have hf : l ∉ A.fks := fun m => hn (List.mem_append_right _ (List.mem_append_left _ m))
  have ha : l ∉ A.as.flatMap ActA.lists := fun m => hn (List.mem_append_right _ (List.mem_append_right _ m))
  exact ⟨k.ins T.ins, k.lst T.kinds (hh (by simp [TextA.heads])), k.lst T.things (hh (by simp [TextA.heads])), k.lst T.thingKinds (hh (by simp [TextA.heads])), k.lst T.facts (hh (by simp [TextA.heads])), k.lst T.factKinds (hh (by simp [TextA.heads])), k.fks T.fks hf, k.lst T.acts (hh (by simp [TextA.heads])), k.acts T.as ha, k.lst T.now (hh (by simp [TextA.heads])), k.said T.ns, k.lst T.want (hh (by simp [TextA.heads])), k.said T.ws⟩
/-- a list that isn't the house's has changed -/
theorem Kept.deeds {l : Addr} {x : Pn16.Text} {ds : List DeedA} {gs : List (Nat × List Nat)} (k : Kept N N' l) (z : DeedsAt CD N x ds gs) (hn : l ∉ ds.map DeedA.w) : DeedsAt CD N' x ds gs := P2.mono' (fun B hB _ _ d => ⟨k.ins d.ins, k.lst d.words fun e => hn (List.mem_map.mpr ⟨B, hB, e⟩)⟩) z
theorem Kept.house {l : Addr} {x : Pn16.Text} {B : HouseA} (k : Kept N N' l) (T : HouseAt K CT CA CH CD N B x) (hn : l ∉ B.lists) : HouseAt K CT CA CH CD N' B x := by
  unfold HouseA.lists at hn
  simp only [List.mem_cons, not_or, List.mem_append] at hn
  exact ⟨k.ins T.ins, k.text T.text hn.2.2.2.2, k.lst T.facts fun e => hn.1 e.symm, k.cases T.fa, k.lst T.acts fun e => hn.2.1 e.symm, k.cases T.aa, k.lst T.deeds fun e => hn.2.2.1 e.symm, k.deeds T.ds hn.2.2.2.1⟩
end
theorem HouseAt.lists_at {H : Hp} {B : HouseA} {x : Pn16.Text} (h : HouseAt K CT CA CH CD H B x) {r : Addr} (hr : r ∈ B.lists) : ∃ o, H r = some o := by
  unfold HouseA.lists at hr
  simp only [List.mem_cons, List.mem_append] at hr
  rcases hr with m | m | m | m | m
  · rw [m]
    exact ⟨_, h.facts⟩
  · rw [m]
    exact ⟨_, h.acts⟩
  · rw [m]
    exact ⟨_, h.deeds⟩
  · obtain ⟨D, hD, e⟩ := List.mem_map.mp m
    obtain ⟨_, _, z⟩ := P2.mem h.ds hD
    rw [← e]
    exact ⟨_, z.words⟩
  · obtain ⟨_, z⟩ := KP.lists_at h.text m
    exact ⟨_, z⟩
end
end KP
set_option Elab.async false
set_option linter.all false
set_option maxRecDepth 100000
set_option maxHeartbeats 800000
/-! house.py: move_in. -/
namespace KP
open PySem PySem.Spec PyProof.Rows L2 Evl
theorem putF_here {k : Str} {v u : V} {r : List (Str × V)} : putF k v ((k, u) :: r) = (k, v) :: r := by
  show (if k = k then (k, v) :: r else _) = _
  rw [if_pos rfl]
theorem putF_past {k g : Str} {v u : V} {r : List (Str × V)} (h : ¬ g = k) : putF k v ((g, u) :: r) = (g, u) :: putF k v r := by
  show (if g = k then _ else (g, u) :: putF k v r) = _
  rw [if_neg h]
section
variable {a b c d e : Addr} {f w n : Nat}
theorem put_text : putF "text" (.ref e) (h6F a b c d f w) = h6F e b c d f w := putF_here
theorem put_facts : putF "facts" (.ref e) (h6F a b c d f w) = h6F a e c d f w := (putF_past (by decide +kernel)).trans (congrArg _ putF_here)
theorem put_acts : putF "acts" (.ref e) (h6F a b c d f w) = h6F a b e d f w := (putF_past (by decide +kernel)).trans (congrArg _ ((putF_past (by decide +kernel)).trans (congrArg _ putF_here)))
theorem put_deeds : putF "deeds" (.ref e) (h6F a b c d f w) = h6F a b c e f w := (putF_past (by decide +kernel)).trans (congrArg _ ((putF_past (by decide +kernel)).trans (congrArg _ ((putF_past (by decide +kernel)).trans (congrArg _ putF_here)))))
theorem put_first : putF "first" (.int (n : Nat)) (h6F a b c d f w) = h6F a b c d n w := (putF_past (by decide +kernel)).trans (congrArg _ ((putF_past (by decide +kernel)).trans (congrArg _ ((putF_past (by decide +kernel)).trans (congrArg _ ((putF_past (by decide +kernel)).trans (congrArg _ putF_here)))))))
theorem put_wanted : putF "wanted" (.int (n : Nat)) (h6F a b c d f w) = h6F a b c d f n := (putF_past (by decide +kernel)).trans (congrArg _ ((putF_past (by decide +kernel)).trans (congrArg _ ((putF_past (by decide +kernel)).trans (congrArg _ ((putF_past (by decide +kernel)).trans (congrArg _ ((putF_past (by decide +kernel)).trans (congrArg _ putF_here)))))))))
end
theorem made_fresh {H : Hp} {dx p l : Addr} {o1 o2 : HO} (h : upd (upd H dx o1) p o2 l = none) : H l = none := by
  by_cases e : l = p
  · rw [e, upd_same] at h
    cases h
  · rw [upd_ne e] at h
    by_cases e2 : l = dx
    · rw [e2, upd_same] at h
      cases h
    · rw [upd_ne e2] at h
      exact h
section
variable {K : PySem.W.Frag} {mg : Str → Option Value} {P : Program} {w : World} {base : Heap} {CT CA CH CD dR dC dM tO : Addr}
/-- house.f = e -/
theorem s_put {σ : L2.St} {H : Hp} {D : Ends} {te : TE} {f : Str} {h dx : Addr} {fs : List (Str × V)} {v : V} (hσ : σ[0]? = some (some (.ref h))) (hi : H h = some (.ins CH dx fs)) (he : Ev te σ H v) (c : Cls K CH) (n : NoAttr K CH f) (hl : fs.length < 1000) (k : ∀ H1, Ex H H1 → D.nx σ (upd H1 h (.ins CH dx (putF f v fs)))) : sFld K (tVar 0) te f D σ H :=
  he H (Ex.refl H) _ fun H1 e1 => ⟨_, hσ, h, CH, dx, fs, rfl, e1 _ _ hi, c, n, hl, k H1 e1⟩
theorem q_put {σ : L2.St} {H : Hp} {D : Ends} {tz : TS} {te : TE} {f : Str} {h dx : Addr} {fs : List (Str × V)} {v : V} (hσ : σ[0]? = some (some (.ref h))) (hi : H h = some (.ins CH dx fs)) (he : Ev te σ H v) (c : Cls K CH) (n : NoAttr K CH f) (hl : fs.length < 1000) (k : ∀ H1, Ex H H1 → tz D σ (upd H1 h (.ins CH dx (putF f v fs)))) : tSeq (sFld K (tVar 0) te f) tz D σ H :=
  s_put (D := { D with nx := tz D }) hσ hi he c n hl k
abbrev s_move_in : Stmt := top 81
theorem sc_move_in : FnScope ["house", "text", "facts", "acts"] ["house", "text", "facts", "acts"] (defScope s_move_in) := ⟨rfl, rfl, rfl, by decide +kernel, rfl, by decide +kernel, by decide +kernel⟩
def sp_move_in (K : PySem.W.Frag) (CT CA CH CD : Addr) : Sp := fun vs H Q _ => ∃ (h dx a0 b0 c0 d0 : Addr) (f0 w0 : Nat) (A : TextA) (x : Pn16.Text) (fl al : Addr) (fa aa : List Addr), vs = [.ref h, .ref A.a, .ref fl, .ref al] ∧ H h = some (.ins CH dx (h6F a0 b0 c0 d0 f0 w0)) ∧ TextAt CT CA H A x ∧ TextOk x ∧ H fl = some (.lst (fa.map V.ref)) ∧ CasesAt K H fa (Pn16.facts x) ∧ (Pn16.facts x).length ≤ 1000 ∧ H al = some (.lst (aa.map V.ref)) ∧ CasesAt K H aa (Pn16.acts x) ∧ (Pn16.acts x).length ≤ 1000 ∧
  ∀ dl ds H2, H dl = none → (∀ B ∈ ds, H B.w = none) → HouseAt K CT CA CH CD H2 ⟨h, dx, A, fl, al, dl, fa, aa, ds⟩ x → (∀ b o, H b = some o → b ≠ h → H2 b = some o) → Q .non H2
theorem has_move_in {f : Addr} {fd : FuncData} (F : Fun K "move_in" "move_in" s_move_in f fd) (C : Clss K CT CA) (HC : HCls K CT CA CH CD) (g : mg "move_in" = some (.ref f)) (h_all_deeds : Has P w K mg base 4 "all_deeds" ["text", "facts", "acts"] (sp_all_deeds K CT CA CD)) (h_fact_set : Has P w K mg base 2 "fact_set" ["text", "facts", "claims"] (sp_fact_set K CT CA)) : Has P w K mg base 5 "move_in" ["house", "text", "facts", "acts"] (sp_move_in K CT CA CH CD) := by
  refine ⟨f, fd, F.ok sc_move_in (fun vs H Q E h => ?_) (fun cdv A outer s H vs Q E hr h => ?_), g, F.kp, F.binds fun _ _ _ _ _ _ us hl => match us, hl with | [_, _, _, _], _ => rfl⟩
  · obtain ⟨_, _, _, _, _, _, _, _, _, _, _, _, _, _, rfl, _⟩ := h
    rfl
  · obtain ⟨h, dx, a0, b0, c0, d0, f0, w0, A, x, fl, al, fa, aa, rfl, hi, T, hx, hfl, hfa, hf8, hal, haa, ha8, q⟩ := h
    refine ⟨_, (pss_cons (ps_fld (pv 0) (pv 1) rfl)
      (pss_cons (ps_fld (pv 0) (pv 2) rfl)
      (pss_cons (ps_fld (pv 0) (pv 3) rfl)
      (pss_cons (ps_fld (pv 0) (pe_own h_all_deeds (hr.mono (by decide)) rfl (pa_cons (pv 1) (pa_cons (pv 2) (pa_cons (pv 3) pa_nil)))) rfl)
      (pss_cons (ps_fld (pv 0) (pe_own h_fact_set (hr.mono (by decide)) rfl (pa_cons (pv 1) (pa_cons (pv 2) (pa_cons (pe_fld (pv 1) (by rfl)) pa_nil)))) rfl)
      (pss_one (ps_fld (pv 0) (pe_own h_fact_set (hr.mono (by decide)) rfl (pa_cons (pv 1) (pa_cons (pv 2) (pa_cons (pe_fld (pv 1) (by rfl)) pa_nil)))) rfl))))))), ?_⟩
    have k0 : InsKept H H h CH := ⟨⟨_, _, hi⟩, fun b o hb _ => hb⟩
    refine q_put (v := .ref A.a) rfl hi (ev_var rfl) HC.h HC.t (by show 6 < 1000; decide) fun H1 e1 => ?_
    rw [put_text]
    have k1 := (k0.ext e1).put (o := .ins CH dx (h6F A.a b0 c0 d0 f0 w0))
    refine q_put (v := .ref fl) rfl upd_same (ev_var rfl) HC.h HC.f (by show 6 < 1000; decide) fun H2 e2 => ?_
    rw [put_facts]
    have k2 := (k1.ext e2).put (o := .ins CH dx (h6F A.a fl c0 d0 f0 w0))
    refine q_put (v := .ref al) rfl upd_same (ev_var rfl) HC.h HC.a (by show 6 < 1000; decide) fun H3 e3 => ?_
    rw [put_acts]
    have k3 := (k2.ext e3).put (o := .ins CH dx (h6F A.a fl al d0 f0 w0))
    have i3 : upd H3 h (.ins CH dx (h6F A.a fl al d0 f0 w0)) h = some (.ins CH dx (h6F A.a fl al d0 f0 w0)) := upd_same
    generalize upd H3 h (.ins CH dx (h6F A.a fl al d0 f0 w0)) = N at k3 i3
    have back : ∀ {b}, N b = none → H b = none := fun {b} hb => by
      cases hh : H b with
      | none => rfl
      | some o =>
        by_cases e : b = h
        · rw [e, i3] at hb
          cases hb
        · rw [k3.keep b o hh e] at hb
          cases hb
    -- house.deeds = all_deeds(text, facts, acts)
    refine ⟨_, rfl, _, rfl, _, rfl, A, x, fl, al, fa, aa, rfl, k3.text HC T, hx, sq_of (k3.lst hfl), k3.cases hfa, hf8, sq_of (k3.lst hal), k3.cases haa, ha8, fun dl ds N2 hdl n12 hl2 D2 hw => ?_⟩
    refine ⟨_, rfl, h, CH, dx, _, rfl, n12 _ _ i3, HC.h, HC.d, (by show 6 < 1000; decide), ?_⟩
    rw [put_deeds]
    have k4 := (k3.ext n12).put (o := .ins CH dx (h6F A.a fl al dl f0 w0))
    have k4' : InsKept N2 (upd N2 h (.ins CH dx (h6F A.a fl al dl f0 w0))) h CH := ⟨⟨_, _, n12 _ _ i3⟩, fun b o hb hn => by rw [upd_ne hn]; exact hb⟩
    have i4 : upd N2 h (.ins CH dx (h6F A.a fl al dl f0 w0)) h = some (.ins CH dx (h6F A.a fl al dl f0 w0)) := upd_same
    have D4 := k4'.deeds HC.dD D2
    have hl4 := k4'.lst hl2
    generalize upd N2 h (.ins CH dx (h6F A.a fl al dl f0 w0)) = M at k4 k4' i4 D4 hl4
    have T4 := k4.text HC T
    -- house.first = fact_set(text, facts, text.now)
    refine q_put (v := .int (Pn16.setOf x x.now : Nat)) rfl i4 (KP.ev_call (ea_cons (ev_var rfl) (ea_cons (ev_var rfl) (ea_cons (ev_now T4 C (ev_var rfl)) ea_nil))) fun M1 m1 Q1 z1 => ⟨A, x, fl, A.nw, fa, A.ns, x.now, rfl, T4.mono m1, hx, sq_of (m1 _ _ (k4.lst hfl)), (k4.cases hfa).mono m1, sq_of (m1 _ _ T4.now), T4.ns.mono fun _ _ z => st_of (m1 _ _ z), hx.now.2, hf8, z1⟩) HC.h HC.s (by show 6 < 1000; decide) fun M1 m1 => ?_
    rw [put_first]
    have k5' : InsKept M (upd M1 h (.ins CH dx (h6F A.a fl al dl (Pn16.setOf x x.now) w0))) h CH := ⟨⟨_, _, i4⟩, fun b o hb hn => by rw [upd_ne hn]; exact m1 _ _ hb⟩
    have k5 := (k4.ext m1).put (o := .ins CH dx (h6F A.a fl al dl (Pn16.setOf x x.now) w0))
    have i5 : upd M1 h (.ins CH dx (h6F A.a fl al dl (Pn16.setOf x x.now) w0)) h = some (.ins CH dx (h6F A.a fl al dl (Pn16.setOf x x.now) w0)) := upd_same
    have D5 := k5'.deeds HC.dD D4
    have hl5 := k5'.lst hl4
    generalize upd M1 h (.ins CH dx (h6F A.a fl al dl (Pn16.setOf x x.now) w0)) = L at k5 k5' i5 D5 hl5
    have T5 := k5.text HC T
    refine s_put (v := .int (Pn16.setOf x x.want : Nat)) rfl i5 (KP.ev_call (ea_cons (ev_var rfl) (ea_cons (ev_var rfl) (ea_cons (ev_want T5 C (ev_var rfl)) ea_nil))) fun L1 l1 Q1 z1 => ⟨A, x, fl, A.wt, fa, A.ws, x.want, rfl, T5.mono l1, hx, sq_of (l1 _ _ (k5.lst hfl)), (k5.cases hfa).mono l1, sq_of (l1 _ _ T5.want), T5.ws.mono fun _ _ z => st_of (l1 _ _ z), hx.want.2, hf8, z1⟩) HC.h HC.w (by show 6 < 1000; decide) fun L1 l1 => ?_
    rw [put_wanted]
    have k6 := (k5.ext l1).put (o := .ins CH dx (h6F A.a fl al dl (Pn16.setOf x x.now) (Pn16.setOf x x.want)))
    have k6' : InsKept L (upd L1 h (.ins CH dx (h6F A.a fl al dl (Pn16.setOf x x.now) (Pn16.setOf x x.want)))) h CH := ⟨⟨_, _, i5⟩, fun b o hb hn => by rw [upd_ne hn]; exact l1 _ _ hb⟩
    have i6 : upd L1 h (.ins CH dx (h6F A.a fl al dl (Pn16.setOf x x.now) (Pn16.setOf x x.want))) h = some (.ins CH dx (h6F A.a fl al dl (Pn16.setOf x x.now) (Pn16.setOf x x.want))) := upd_same
    have D6 := k6'.deeds HC.dD D5
    have hl6 := k6'.lst hl5
    exact q dl ds _ (back hdl) (fun B hB => back (hw B hB)) ⟨i6, k6.text HC T, k6.lst hfl, k6.cases hfa, k6.lst hal, k6.cases haa, hl6, D6⟩ k6.keep
end
end KP
set_option Elab.async false
set_option linter.all false
set_option maxRecDepth 100000
set_option maxHeartbeats 800000
namespace KP
open PySem PySem.Spec PyProof.Rows L2 Evl
theorem lines_few (t : List Nat) : ∀ l ∈ Pn16.lines t, l.length ≤ t.length := by
  have key : ∀ (t : List Nat), ∀ v ∈ Pn16.cut 10 t, v.length ≤ t.length := by
    intro t
    induction t with
    | nil =>
      intro v h
      simp [Pn16.cut] at h
      rw [h]
      exact Nat.le_refl _
    | cons b r ih =>
      intro v h
      unfold Pn16.cut at h
      split at h
      · rcases List.mem_cons.mp h with e | h
        · rw [e]
          exact Nat.zero_le _
        · have := ih v h
          simp
          omega
      · split at h
        · rw [List.mem_singleton] at h
          rw [h]
          simp
        · rename_i w l' e
          rcases List.mem_cons.mp h with e2 | h
          · have := ih w (by rw [e]; exact List.mem_cons_self ..)
            rw [e2]
            simp
            omega
          · have := ih v (by rw [e]; exact List.mem_cons_of_mem _ h)
            simp
            omega
  intro l hl
  unfold Pn16.lines at hl
  simp only at hl
  split at hl
  · exact key t l ((List.dropLast_sublist _).subset hl)
  · exact key t l hl
/-- what a text read comes to -/
theorem read_line {t : List Nat} {n e : Nat} (h : Pn16.readAll 1 Pn16.blank (Pn16.lines t) = .error (n, e)) : Pn16.read t = .error (n, e) := by
  unfold Pn16.read
  rw [h]
theorem read_whole {t : List Nat} {x : Pn16.Text} {n : Nat} (h : Pn16.readAll 1 Pn16.blank (Pn16.lines t) = .ok (x, n)) (hw : wholeOf (Pn16.facts x).length (Pn16.acts x).length ≠ 0) : Pn16.read t = .error (n, wholeOf (Pn16.facts x).length (Pn16.acts x).length) := by
  unfold Pn16.read
  rw [h]
  unfold wholeOf at hw ⊢
  show (if Pn16.facts x = [] ∨ Pn.FACTS < (Pn16.facts x).length then _ else _) = _
  by_cases h1 : (Pn16.facts x).length = 0 ∨ 8 < (Pn16.facts x).length
  · rw [if_pos h1, if_pos (by rw [← List.length_eq_zero_iff]; exact h1)]
  · rw [if_neg h1] at hw ⊢
    rw [if_neg (by rw [← List.length_eq_zero_iff]; exact h1)]
    by_cases h2 : 12 < (Pn16.acts x).length
    · rw [if_pos h2, if_pos (show Pn.ACTS < _ from h2)]
    · rw [if_neg h2] at hw
      exact absurd rfl hw
theorem read_ok {t : List Nat} {x : Pn16.Text} {n : Nat} (h : Pn16.readAll 1 Pn16.blank (Pn16.lines t) = .ok (x, n)) (hw : wholeOf (Pn16.facts x).length (Pn16.acts x).length = 0) : Pn16.read t = .ok x := by
  unfold Pn16.read
  rw [h]
  unfold wholeOf at hw
  show (if Pn16.facts x = [] ∨ Pn.FACTS < (Pn16.facts x).length then _ else _) = _
  by_cases h1 : (Pn16.facts x).length = 0 ∨ 8 < (Pn16.facts x).length
  · rw [if_pos h1] at hw
    cases hw
  · rw [if_neg h1] at hw
    rw [if_neg (by rw [← List.length_eq_zero_iff]; exact h1)]
    by_cases h2 : 12 < (Pn16.acts x).length
    · rw [if_pos h2] at hw
      cases hw
    · rw [if_neg (show ¬ Pn.ACTS < _ from h2)]
section
variable {K : PySem.W.Frag} {mg : Str → Option Value} {P : Program} {w : World} {base : Heap} {CT CA CH CD dR dC dM tO : Addr}
theorem goes_enumS {σ : L2.St} {F : Hp} {ta tk : TE} {a : Addr} {k : Nat} {xs : List V} (ha : Ev ta σ F (.ref a)) (hk : Ev tk σ F (.int (k : Int))) (h1 : k < 1000) (hx : SqL K F a xs) : Goes (iEnumS K (tCons ta tNil) (tCons tk tNil)) σ F xs.length (YPair (fun i => some (.int ((k + i : Nat) : Int))) (fun i => xs[i]?)) := fun H1 e R q =>
  ha H1 e _ fun H2 e2 => hk H2 (e.trans e2) _ fun H3 e3 => ⟨a, xs, k, rfl, rfl, h1, ex_l ((e.trans e2).trans e3) hx, q _ H3 (e2.trans e3) (walk_enumk.mono (fun H g => ex_l g hx) (fun _ _ _ _ _ _ y => y))⟩
theorem et_neI {σ : L2.St} {F : Hp} {ta tb : TE} {i j : Int} (ha : Ev ta σ F (.int i)) (hb : Ev tb σ F (.int j)) : EvT (tTest (tOp rNe ta tb)) σ F (!decide (i = j)) := et_is (et_test (ev_op ha hb (rv_ne rfl))) (congrArg Bool.not int_eq)
abbrev s_read_answer : Stmt := top 80
theorem sc_read_answer : FnScope ["house", "row", "text", "lines", "number", "line", "fault", "facts", "acts"] ["house", "row"] (defScope s_read_answer) := ⟨rfl, rfl, rfl, by decide +kernel, rfl, by decide +kernel, by decide +kernel⟩
def sp_read (K : PySem.W.Frag) (CT CA CH CD : Addr) : Sp := fun vs H Q _ => ∃ (B : HouseA) (x : Pn16.Text) (a : Addr) (t : List Nat), vs = [.ref B.h, .ref a] ∧ HouseAt K CT CA CH CD H B x ∧ SqL K H a (bytesV t) ∧ t.length ≤ 1500 ∧
  (∀ n e l H2, Pn16.read t = .error (n, e) → H l = none → Ex H H2 → H2 l = some (.lst [.int (-1), .int (n : Nat), .int (e : Nat)]) → Q (.ref l) H2) ∧
  (∀ y B' l H2, Pn16.read t = .ok y → TextOk y → B'.h = B.h → HouseAt K CT CA CH CD H2 B' y → (∀ r ∈ B'.lists, H r = none) → H l = none → l ∉ B'.lists → (∀ b o, H b = some o → b ≠ B.h → H2 b = some o) → H2 l = some (.lst [.int 0, .int ((Pn16.facts y).length : Nat), .int ((Pn16.acts y).length : Nat)]) → Q (.ref l) H2)
theorem has_read_answer {f : Addr} {fd : FuncData} (F : Fun K "read_answer" "read_answer" s_read_answer f fd) (O : Own mg) (O2 : Own2 mg) (C : Clss K CT CA) (HC : HCls K CT CA CH CD) (TB : Tabs K w mg dR dC dM tO) (g : mg "read_answer" = some (.ref f)) (MT : Made P w K mg base "Text" CT ["self"] (sp_textInit CT CA)) (h_cut_lines : Has P w K mg base 1 "cut_lines" ["row"] (sp_cut_lines K)) (h_take_line : Has P w K mg base 5 "take_line" ["text", "line"] (sp_take_line K CT CA))
    (h_all_facts : Has P w K mg base 4 "all_facts" ["text"] (sp_all_facts K CT CA)) (h_all_acts : Has P w K mg base 4 "all_acts" ["text"] (sp_all_acts K CT CA)) (h_whole_fault : Has P w K mg base 1 "whole_fault" ["facts", "acts"] (sp_whole_fault K)) (h_move_in : Has P w K mg base 5 "move_in" ["house", "text", "facts", "acts"] (sp_move_in K CT CA CH CD)) : Has P w K mg base 6 "read_answer" ["house", "row"] (sp_read K CT CA CH CD) := by
  refine ⟨f, fd, F.ok sc_read_answer (fun vs H Q E h => ?_) (fun cdv A outer s H vs Q E hr h => ?_), g, F.kp, F.binds fun _ _ _ _ _ _ us hl => match us, hl with | [_, _], _ => rfl⟩
  · obtain ⟨_, _, _, _, rfl, _⟩ := h
    rfl
  · obtain ⟨B, x, a, t, rfl, HB, ha, ht, q1, q2⟩ := h
    obtain ⟨fT, fdT, M_Text, G_Text, b_Text⟩ := MT.ex
    refine ⟨_, (pss_cons (ps_set (i := 2) sc_read_answer.nd rfl (Or.inl rfl) (pe_make0 M_Text G_Text (hr.mono (by decide)) rfl MT.g b_Text .nil pass0 ))
      (pss_cons (ps_set (i := 3) sc_read_answer.nd rfl (Or.inl rfl) (pe_own h_cut_lines (hr.mono (by decide)) rfl (pa_cons (pv 1) pa_nil)))
      (pss_cons (ps_for PassesOwn.never rfl (pi_enumS (by rfl) O.enum (pa_cons (pv 3) pa_nil) (pk_cons pe_int pk_nil)) (pg_tup rfl (pgs_cons (pg_name (i := 4) sc_read_answer.nd rfl (Or.inl rfl)) (pgs_cons (pg_name (i := 5) sc_read_answer.nd rfl (Or.inl rfl)) pgs_nil))) (pss_cons (ps_set (i := 6) sc_read_answer.nd rfl (Or.inl rfl) (pe_own h_take_line (hr.mono (by decide)) rfl (pa_cons (pv 2) (pa_cons (pv 5) pa_nil))))
      (pss_one (ps_if (pt_cmpR op_ne (pv 6) (pe_gint TB.noF rfl) (nomark _)) (pss_one (ps_ret (pe_lst (pa_cons (pe_gint O2.wrong rfl) (pa_cons (pv 4) (pa_cons (pv 6) pa_nil)))))) pss_nil))))
      (pss_cons (ps_set (i := 7) sc_read_answer.nd rfl (Or.inl rfl) (pe_own h_all_facts (hr.mono (by decide)) rfl (pa_cons (pv 2) pa_nil)))
      (pss_cons (ps_set (i := 8) sc_read_answer.nd rfl (Or.inl rfl) (pe_own h_all_acts (hr.mono (by decide)) rfl (pa_cons (pv 2) pa_nil)))
      (pss_cons (ps_set (i := 6) sc_read_answer.nd rfl (Or.inl rfl) (pe_own h_whole_fault (hr.mono (by decide)) rfl (pa_cons (pv 7) (pa_cons (pv 8) pa_nil))))
      (pss_cons (ps_if (pt_cmpR op_ne (pv 6) (pe_gint TB.noF rfl) (nomark _)) (pss_one (ps_ret (pe_lst (pa_cons (pe_gint O2.wrong rfl) (pa_cons (pe_op op_add (pe_callB call_len_seq (by rfl) O.len (by decide +kernel) (pa_cons (pv 3) pa_nil)) pe_int) (pa_cons (pv 6) pa_nil)))))) pss_nil)
      (pss_cons (ps_expr (pe_own h_move_in (hr.mono (by decide)) rfl (pa_cons (pv 0) (pa_cons (pv 2) (pa_cons (pv 7) (pa_cons (pv 8) pa_nil))))))
      (pss_one (ps_ret (pe_lst (pa_cons pe_int (pa_cons (pe_callB call_len_seq (by rfl) O.len (by decide +kernel) (pa_cons (pv 7) pa_nil)) (pa_cons (pe_callB call_len_seq (by rfl) O.len (by decide +kernel) (pa_cons (pv 8) pa_nil)) pa_nil)))))))))))))), ?_⟩
    -- text = Text()
    intro p dx hp hdx hne
    refine ⟨p, dx, rfl, upd_same, fun A H1 eA T1 nd1 fr1 k1 => ⟨rfl, ?_⟩⟩
    have e1 : Ex H H1 := Same.made hp hdx k1
    have fr0 : ∀ l ∈ A.lists, H l = none := fun l hl => made_fresh (fr1 l hl)
    subst eA
    -- lines = cut_lines(row)
    refine ⟨_, rfl, a, t, rfl, ex_l e1 ha, ht, fun ln as H2 hln e2 h2 R => ?_⟩
    have lenR := R.length
    have e12 := e1.trans e2
    have T2 := T1.mono e2
    have lnF : wo H2 A.lists ln = some (.lst (as.map V.ref)) := by
      rw [wo_not (fresh_lists T1 hln)]
      exact h2
    have rowF : ∀ {i : Nat} {l : List Nat}, (Pn16.lines t)[i]? = some l → ∃ b, as[i]? = some b ∧ wo H2 A.lists b = some (.lst (bytesV l)) := fun hi => by
      obtain ⟨b, h3, h4, h5⟩ := R.get hi
      exact ⟨b, h3, by rw [wo_not (fresh_lists T1 h4)]; exact h5⟩
    have eHF : Ex H (wo H2 A.lists) := wo_old e12 fr0
    have eF2 : Ex (wo H2 A.lists) H2 := wo_sub
    have inF : ∀ l ∈ A.lists, wo H2 A.lists l = none := fun l hl => wo_in hl
    generalize wo H2 A.lists = F0 at lnF rowF eHF eF2 inF
    have hgo := goes_enumS (K := K) (σ := [some (.ref B.h), some (.ref a), some (.ref A.a), some (.ref ln), none, none, none, none, none]) (F := F0) (ta := tVar 3) (tk := tC (.int 1)) (k := 1) (ev_var rfl) ev_c (by decide) (sq_of lnF)
    rw [List.length_map, lenR] at hgo
    refine q_for hgo eF2 (fun i σ' H' => ∃ (A' : TextA) (x' : Pn16.Text) (v4 v5 v6 : Option V), σ' = [some (.ref B.h), some (.ref a), some (.ref A.a), some (.ref ln), v4, v5, v6, none, none] ∧ A'.a = A.a ∧ TextAt CT CA H' A' x' ∧ TextOk x' ∧ A'.lists.Nodup ∧ (∀ l ∈ A'.lists, F0 l = none) ∧ Ex F0 H' ∧ Pn16.readAll 1 Pn16.blank (Pn16.lines t) = Pn16.readAll (1 + i) x' ((Pn16.lines t).drop i)) ?_ ?_ ?_ ?_
    · intro H3 e3
      exact ⟨A, Pn16.blank, none, none, none, rfl, rfl, T2.mono e3, ok_blank, nd1, inF, eF2.trans e3, rfl⟩
    · rintro i σ' H' _ ⟨_, _, _, _, _, _, _, _, _, _, _, e, _⟩
      exact e
    · rintro i v σ' H3 H' hi ⟨A', x', v4, v5, v6, rfl, eA, T3, hx', nd3, in3, e3, hrd⟩ y
      obtain ⟨N, u, o, rfl, hN, rfl, hu, ho⟩ := y
      have hu' : V.int ((1 + i : Nat) : Int) = u := Option.some.inj hu
      subst hu'
      obtain ⟨l, hl⟩ : ∃ l, (Pn16.lines t)[i]? = some l := ⟨_, List.getElem?_eq_getElem hi⟩
      obtain ⟨b, hb, hbF⟩ := rowF hl
      have ho' : V.ref b = o := by
        have ho1 : (as.map V.ref)[i]? = some o := ho
        rw [List.getElem?_map, hb] at ho1
        exact Option.some.inj ho1
      subst ho'
      have e4 : Ex H3 (upd H3 N (.tup [.int ((1 + i : Nat) : Int), .ref b])) := Ex.new hN
      refine g_pair (K := K) upd_same ?_
      generalize upd H3 N (.tup [.int ((1 + i : Nat) : Int), .ref b]) = H4 at e4
      have e34 := e3.trans e4
      have hdrop : (Pn16.lines t).drop i = l :: (Pn16.lines t).drop (i + 1) := by
        rw [List.drop_eq_getElem_cons hi]
        congr 1
        rw [List.getElem?_eq_getElem hi] at hl
        exact Option.some.inj hl
      rw [hdrop, readAll_cons] at hrd
      refine ⟨_, rfl, _, rfl, A', x', b, l, by rw [eA] <;> rfl, T3.mono e4, hx', nd3, sq_of (e34 _ _ hbF), Nat.le_trans (lines_few t l (List.mem_of_getElem? hl)) ht, ?_, ?_⟩
      · intro er H5 her hne e5
        rw [her] at hrd
        refine s_when (et_neI (ev_var rfl) ev_c) (fun c H6 e6 => ?_) (fun c _ _ => ?_)
        · refine s_retL (el_lst (vs := [.int (-1), .int ((1 + i : Nat) : Int), .int (er : Nat)]) (ea_cons ev_c (ea_cons (ev_var rfl) (ea_cons (ev_var rfl) ea_nil))) (by simp)) fun l' H7 hl' e7 h7 => ?_
          have eH := ((eHF.trans e34).trans e5).trans e6
          exact q1 (1 + i) er l' H7 (read_line hrd) (fresh_back eH hl') (eH.trans e7) h7
        · have : (er : Int) = 0 := by
            rw [Bool.not_eq_false', decide_eq_true_eq] at c
            exact c
          exact absurd this (by omega)
      · intro y A2 H5 hy oky eA2 T5 nd5 l5 k5
        rw [hy] at hrd
        refine s_when (et_neI (ev_var rfl) ev_c) (fun c _ _ => ?_) (fun c H6 e6 => ?_)
        · exact absurd c (by decide)
        · refine ⟨A2, y, _, _, _, rfl, eA2.trans eA, T5.mono e6, oky, nd5, fun b' hb' => ?_, fun b' o' hb' => e6 _ _ (k5 b' o' (e34 _ _ hb') fun m => by rw [in3 b' m] at hb'; cases hb'), ?_⟩
          · rcases l5 b' hb' with h | h
            · exact in3 b' h
            · exact fresh_back e34 h
          · exact hrd
    · rintro σ' H3 ⟨A', x', v4, v5, v6, rfl, eA, T3, hx', nd3, in3, e3, hrd⟩
      rw [List.drop_length] at hrd
      have hrd' : Pn16.readAll 1 Pn16.blank (Pn16.lines t) = .ok (x', 1 + (Pn16.lines t).length) := hrd
      have eH3 := eHF.trans e3
      -- facts = all_facts(text)
      refine ⟨_, rfl, A', x', by rw [eA] <;> rfl, T3, hx', fun fl fa H4 hfl e4 h4 C4 => ?_⟩
      refine ⟨_, rfl, A', x', by rw [eA] <;> rfl, T3.mono e4, hx', fun al aa H5 hal e5 h5 C5 => ?_⟩
      have lf := C4.length
      have la := C5.length
      have e35 := e4.trans e5
      have eH5 := eH3.trans e35
      have h4' := e5 _ _ h4
      have C4' := C4.mono e5
      have T5 := T3.mono e35
      have hw : wholeOf (fa.map V.ref).length (aa.map V.ref).length = wholeOf (Pn16.facts x').length (Pn16.acts x').length := by rw [List.length_map, List.length_map, lf, la]
      refine q_asg (ev_call (v := .int (wholeOf (Pn16.facts x').length (Pn16.acts x').length : Nat)) (ea_cons (ev_var rfl) (ea_cons (ev_var rfl) ea_nil)) fun H6 e6 Q6 z6 => ⟨fl, al, _, _, rfl, sq_of (e6 _ _ h4'), sq_of (e6 _ _ h5), by rw [hw]; exact z6⟩) fun H6 e6 => ?_
      have eH6 := eH5.trans e6
      refine q_when (et_neI (ev_var rfl) ev_c) (fun c H7 e7 => ?_) (fun c H7 e7 => ?_)
      · have hc : wholeOf (Pn16.facts x').length (Pn16.acts x').length ≠ 0 := by
          rw [Bool.not_eq_true', decide_eq_false_iff_not] at c
          omega
        have eH7 := eH6.trans e7
        have hln7 := (((e3.trans e35).trans e6).trans e7) _ _ lnF
        refine s_retL (el_lst (vs := [.int (-1), .int (((as.map V.ref).length : Nat) + 1), .int (wholeOf (Pn16.facts x').length (Pn16.acts x').length : Nat)]) (ea_cons ev_c (ea_cons (ev_add (ev_len (K := K) (ev_var rfl) (sq_of hln7)) ev_c) (ea_cons (ev_var rfl) ea_nil))) (by simp)) fun l' H8 hl' e8 h8 => ?_
        refine q1 _ _ l' H8 (read_whole hrd' hc) (fresh_back eH7 hl') (eH7.trans e8) ?_
        rw [h8, List.length_map, lenR]
        have : ((((Pn16.lines t).length : Nat) : Int) + 1) = ((1 + (Pn16.lines t).length : Nat) : Int) := by omega
        rw [this]
      · have hc : wholeOf (Pn16.facts x').length (Pn16.acts x').length = 0 := by
          rw [Bool.not_eq_false', decide_eq_true_eq] at c
          omega
        have eH7 := eH6.trans e7
        have ins7 := eH7 _ _ HB.ins
        have e67 := e6.trans e7
        have hfew : (Pn16.facts x').length ≤ 8 ∧ (Pn16.acts x').length ≤ 12 := by
          unfold wholeOf at hc
          split at hc
          · cases hc
          · split at hc
            · cases hc
            · omega
        refine ⟨_, rfl, _, rfl, _, rfl, _, rfl, B.h, B.dx, B.A.a, B.fl, B.al, B.dl, _, _, A', x', fl, al, fa, aa, by rw [eA] <;> rfl, ins7, T5.mono e67, hx', e67 _ _ h4', C4'.mono e67, by omega, e67 _ _ h5, C5.mono e67, by omega, fun dl ds H8 hdl hds HB' keep => ?_⟩
        have eH75 := eH7
        refine s_retL (el_lst (vs := [.int 0, .int ((fa.map V.ref).length : Nat), .int ((aa.map V.ref).length : Nat)]) (ea_cons ev_c (ea_cons (ev_len (K := K) (ev_var rfl) (sq_of HB'.facts)) (ea_cons (ev_len (K := K) (ev_var rfl) (sq_of HB'.acts)) ea_nil))) (by simp)) fun l' H9 hl' e9 h9 => ?_
        have hkeep : ∀ b o, H b = some o → b ≠ B.h → H9 b = some o := fun b o hb hn => e9 _ _ (keep b o (eH75 _ _ hb) hn)
        have hl0 : H l' = none := by
          cases hh : H l' with
          | none => rfl
          | some o =>
            by_cases hb : l' = B.h
            · rw [hb, HB'.ins] at hl'
              cases hl'
            · have := keep l' o (eH75 _ _ hh) hb
              rw [hl'] at this
              cases this
        refine q2 x' ⟨B.h, B.dx, A', fl, al, dl, fa, aa, ds⟩ l' H9 (read_ok hrd' hc) hx' rfl (HB'.mono e9) (fun r hr => ?_) hl0 (fun m => ?_) hkeep ?_
        · unfold HouseA.lists at hr
          simp only [List.mem_cons, List.mem_append] at hr
          rcases hr with m | m | m | m | m
          · rw [m]
            exact fresh_back eH3 hfl
          · rw [m]
            exact fresh_back (eH3.trans e4) hal
          · rw [m]
            exact fresh_back eH75 hdl
          · obtain ⟨D, hD, e⟩ := List.mem_map.mp m
            rw [← e]
            exact fresh_back eH75 (hds D hD)
          · exact fresh_back eHF (in3 r m)
        · obtain ⟨o, z⟩ := HB'.lists_at m
          rw [hl'] at z
          cases z
        · rw [h9, List.length_map, List.length_map, lf, la]
end
end KP
set_option Elab.async false
set_option linter.all false
set_option maxRecDepth 100000
set_option maxHeartbeats 800000
namespace KP
open PySem PySem.Spec PyProof.Rows L2 Evl
section
variable {K : PySem.W.Frag} {mg : Str → Option Value} {P : Program} {w : World} {base : Heap} {CT CA CH CD dR dC dM tO : Addr}
section
variable {F : Hp} {σ : L2.St} {ta : TE} {B : HouseA} {x : Pn16.Text}
theorem ev_htext (T : HouseAt K CT CA CH CD F B x) (C : HCls K CT CA CH CD) (ha : Ev ta σ F (.ref B.h)) : Ev (tFld K ta "text") σ F (.ref B.A.a) := ev_fld ha T.ins C.h C.t lk_here
theorem ev_hfacts (T : HouseAt K CT CA CH CD F B x) (C : HCls K CT CA CH CD) (ha : Ev ta σ F (.ref B.h)) : Ev (tFld K ta "facts") σ F (.ref B.fl) := ev_fld ha T.ins C.h C.f ((lk_past (by decide +kernel)).trans lk_here)
theorem ev_hacts (T : HouseAt K CT CA CH CD F B x) (C : HCls K CT CA CH CD) (ha : Ev ta σ F (.ref B.h)) : Ev (tFld K ta "acts") σ F (.ref B.al) := ev_fld ha T.ins C.h C.a ((lk_past (by decide +kernel)).trans ((lk_past (by decide +kernel)).trans lk_here))
end
section
variable {F : Hp} {σ : L2.St} {ta : TE} {B : HouseA} {x : Pn16.Text}
theorem ev_hdeeds (T : HouseAt K CT CA CH CD F B x) (C : HCls K CT CA CH CD) (ha : Ev ta σ F (.ref B.h)) : Ev (tFld K ta "deeds") σ F (.ref B.dl) := ev_fld ha T.ins C.h C.d ((lk_past (by decide +kernel)).trans ((lk_past (by decide +kernel)).trans ((lk_past (by decide +kernel)).trans lk_here)))
theorem ev_hfirst (T : HouseAt K CT CA CH CD F B x) (C : HCls K CT CA CH CD) (ha : Ev ta σ F (.ref B.h)) : Ev (tFld K ta "first") σ F (.int (Pn16.setOf x x.now : Nat)) := ev_fld ha T.ins C.h C.s ((lk_past (by decide +kernel)).trans ((lk_past (by decide +kernel)).trans ((lk_past (by decide +kernel)).trans ((lk_past (by decide +kernel)).trans lk_here))))
theorem ev_hwanted (T : HouseAt K CT CA CH CD F B x) (C : HCls K CT CA CH CD) (ha : Ev ta σ F (.ref B.h)) : Ev (tFld K ta "wanted") σ F (.int (Pn16.setOf x x.want : Nat)) := ev_fld ha T.ins C.h C.w ((lk_past (by decide +kernel)).trans ((lk_past (by decide +kernel)).trans ((lk_past (by decide +kernel)).trans ((lk_past (by decide +kernel)).trans ((lk_past (by decide +kernel)).trans lk_here)))))
end
theorem el_catR {F : Hp} {σ : L2.St} {ta tb : TE} {r : Addr} {xs ys : List V} (ha : EvL ta σ F xs) (hb : Ev tb σ F (.ref r)) (hr : F r = some (.lst ys)) (hl : xs.length + ys.length ≤ 100000) : EvL (tOp rCat ta tb) σ F (xs ++ ys) := fun H1 e1 Q q =>
  ha H1 e1 _ fun l H2 hl2 e2 h2 => hb H2 (e1.trans e2) _ fun H3 e3 => ⟨l, r, xs, ys, rfl, rfl, e3 _ _ h2, ((e1.trans e2).trans e3) _ _ hr, sz_of hl, fun p hp => q p _ (fresh_back (e2.trans e3) hp) ((e2.trans e3).trans (Ex.new hp)) upd_same⟩
theorem rows_two {x : Pn16.Text} : ∀ {ks : List Nat} {r : List Nat}, r ∈ Pn16.rows x ks → r.length = ks.length
  | [], r, h => by
    have : r = [] := by simpa [Pn16.rows] using h
    rw [this]
  | k :: ks, r, h => by
    unfold Pn16.rows at h
    obtain ⟨i, _, h⟩ := List.mem_flatMap.mp h
    obtain ⟨l, hl, rfl⟩ := List.mem_map.mp h
    simp [rows_two hl]
theorem facts_two {x : Pn16.Text} (hx : TextOk x) : ∀ c ∈ Pn16.facts x, c.2.length ≤ 2 := by
  intro c hc
  unfold Pn16.facts at hc
  obtain ⟨p, hp, hc⟩ := List.mem_flatMap.mp hc
  obtain ⟨l, hl, rfl⟩ := List.mem_map.mp hc
  show l.length ≤ 2
  rw [rows_two hl]
  have hp' := List.mem_range.mp hp
  unfold Pn16.kindsOf
  rw [List.getElem?_eq_getElem hp']
  exact (hx.facts.2.2 _ (List.getElem_mem hp')).2.1
theorem acts_two {x : Pn16.Text} (hx : TextOk x) : ∀ c ∈ Pn16.acts x, c.2.length ≤ 2 := by
  intro c hc
  unfold Pn16.acts at hc
  obtain ⟨p, hp, hc⟩ := List.mem_flatMap.mp hc
  obtain ⟨l, hl, rfl⟩ := List.mem_map.mp hc
  show l.length ≤ 2
  rw [rows_two hl, List.length_map]
  have hp' := List.mem_range.mp hp
  rw [List.getD_eq_getElem?_getD, List.getElem?_eq_getElem hp']
  exact (hx.acts.2.2 _ (List.getElem_mem hp')).few
/-- a house that stands: few facts, few acts -/
structure HouseOk (x : Pn16.Text) : Prop where
  text : TextOk x
  facts : (Pn16.facts x).length ≤ 8
  acts : (Pn16.acts x).length ≤ 12
/-! ### print_answer -/
abbrev s_print_answer : Stmt := top 84
theorem sc_print_answer : FnScope ["house", "row"] ["house"] (defScope s_print_answer) := ⟨rfl, rfl, rfl, by decide +kernel, rfl, by decide +kernel, by decide +kernel⟩
def sp_print (K : PySem.W.Frag) (CT CA CH CD : Addr) : Sp := fun vs H Q _ => ∃ (B : HouseA) (x : Pn16.Text), vs = [.ref B.h] ∧ HouseAt K CT CA CH CD H B x ∧ TextOk x ∧ ∀ l H2, H l = none → Ex H H2 → H2 l = some (.lst (bytesV ((Pn16.print x).length :: Pn16.print x))) → Q (.ref l) H2
theorem has_print_answer {f : Addr} {fd : FuncData} (F : Fun K "print_answer" "print_answer" s_print_answer f fd) (O : Own mg) (HC : HCls K CT CA CH CD) (g : mg "print_answer" = some (.ref f)) (h_one_form : Has P w K mg base 4 "one_form" ["text"] (sp_one_form CT CA)) : Has P w K mg base 5 "print_answer" ["house"] (sp_print K CT CA CH CD) := by
  refine ⟨f, fd, F.ok sc_print_answer (fun vs H Q E h => ?_) (fun cdv A outer s H vs Q E hr h => ?_), g, F.kp, F.binds fun _ _ _ _ _ _ us hl => match us, hl with | [_], _ => rfl⟩
  · obtain ⟨_, _, rfl, _⟩ := h
    rfl
  · obtain ⟨B, x, rfl, HB, hx, q⟩ := h
    refine ⟨_, (pss_cons (ps_set (i := 1) sc_print_answer.nd rfl (Or.inl rfl) (pe_own h_one_form (hr.mono (by decide)) rfl (pa_cons (pe_fld (pv 0) (by rfl)) pa_nil)))
      (pss_one (ps_ret (pe_op op_cat (pe_lst (pa_cons (pe_callB call_len_seq (by rfl) O.len (by decide +kernel) (pa_cons (pv 1) pa_nil)) pa_nil)) (pv 1))))), ?_⟩
    have hE : EvL (tCall (sp_one_form CT CA) [] E0 (tCons (tFld K (tVar 0) "text") tNil)) (start ["house", "row"] [.ref B.h]) H (bytesV (Pn16.print x)) := fun H1 e1 Q1 z1 => ev_htext HB HC (ev_var rfl) H1 e1 _ fun H2 e2 => ⟨B.A, x, rfl, HB.text.mono (e1.trans e2), hx, fun l H3 hl e3 h3 => z1 l H3 (fresh_back e2 hl) (e2.trans e3) h3⟩
    refine q_asgL hE fun r H1 hr1 e1 h1 => ?_
    have hlen := print_len hx
    have hL : EvL (tLst (tCons (tCB (rLenS K) (tCons (tVar 1) tNil)) tNil)) [some (.ref B.h), some (.ref r)] H1 [.int ((bytesV (Pn16.print x)).length : Nat)] := el_lst (ea_cons (ev_len (ev_var rfl) (sq_of h1)) ea_nil) (by simp)
    refine s_retL (el_catR hL (ev_var rfl) h1 (by rw [List.length_map]; simp; omega)) fun p H2 hp e2 h2 => q p H2 (fresh_back e1 hp) (e1.trans e2) ?_
    rw [h2]
    unfold bytesV
    rw [List.length_map]
    rfl
/-! ### facts_answer, acts_answer -/
abbrev s_facts_answer : Stmt := top 85
theorem sc_facts_answer : FnScope ["house"] ["house"] (defScope s_facts_answer) := ⟨rfl, rfl, rfl, by decide +kernel, rfl, by decide +kernel, by decide +kernel⟩
def sp_facts (K : PySem.W.Frag) (CT CA CH CD : Addr) : Sp := fun vs H Q _ => ∃ (B : HouseA) (x : Pn16.Text), vs = [.ref B.h] ∧ HouseAt K CT CA CH CD H B x ∧ HouseOk x ∧ ∀ l H2, H l = none → Ex H H2 → H2 l = some (.lst (bytesV ((Pn16.facts x).length :: numsOf (Pn16.facts x)))) → Q (.ref l) H2
theorem has_facts_answer {f : Addr} {fd : FuncData} (F : Fun K "facts_answer" "facts_answer" s_facts_answer f fd) (HC : HCls K CT CA CH CD) (g : mg "facts_answer" = some (.ref f)) (h_cases_answer : Has P w K mg base 1 "cases_answer" ["cases"] (sp_cases_answer K)) : Has P w K mg base 2 "facts_answer" ["house"] (sp_facts K CT CA CH CD) := by
  refine ⟨f, fd, F.ok sc_facts_answer (fun vs H Q E h => ?_) (fun cdv A outer s H vs Q E hr h => ?_), g, F.kp, F.binds fun _ _ _ _ _ _ us hl => match us, hl with | [_], _ => rfl⟩
  · obtain ⟨_, _, rfl, _⟩ := h
    rfl
  · obtain ⟨B, x, rfl, HB, hx, q⟩ := h
    refine ⟨_, (pss_one (ps_ret (pe_own h_cases_answer (hr.mono (by decide)) rfl (pa_cons (pe_fld (pv 0) (by rfl)) pa_nil)))), ?_⟩
    have h8 := hx.facts
    have hE : EvL (tCall (sp_cases_answer K) [] E0 (tCons (tFld K (tVar 0) "facts") tNil)) (start ["house"] [.ref B.h]) H (bytesV ((Pn16.facts x).length :: numsOf (Pn16.facts x))) := fun H1 e1 Q1 z1 => ev_hfacts HB HC (ev_var rfl) H1 e1 _ fun H2 e2 => ⟨B.fl, B.fa, _, rfl, sq_of ((e1.trans e2) _ _ HB.facts), HB.fa.mono (e1.trans e2), by omega, facts_two hx.text, fun l H3 hl e3 h3 => z1 l H3 (fresh_back e2 hl) (e2.trans e3) h3⟩
    exact s_retL hE q
abbrev s_acts_answer : Stmt := top 86
theorem sc_acts_answer : FnScope ["house"] ["house"] (defScope s_acts_answer) := ⟨rfl, rfl, rfl, by decide +kernel, rfl, by decide +kernel, by decide +kernel⟩
def sp_acts (K : PySem.W.Frag) (CT CA CH CD : Addr) : Sp := fun vs H Q _ => ∃ (B : HouseA) (x : Pn16.Text), vs = [.ref B.h] ∧ HouseAt K CT CA CH CD H B x ∧ HouseOk x ∧ ∀ l H2, H l = none → Ex H H2 → H2 l = some (.lst (bytesV ((Pn16.acts x).length :: numsOf (Pn16.acts x)))) → Q (.ref l) H2
theorem has_acts_answer {f : Addr} {fd : FuncData} (F : Fun K "acts_answer" "acts_answer" s_acts_answer f fd) (HC : HCls K CT CA CH CD) (g : mg "acts_answer" = some (.ref f)) (h_cases_answer : Has P w K mg base 1 "cases_answer" ["cases"] (sp_cases_answer K)) : Has P w K mg base 2 "acts_answer" ["house"] (sp_acts K CT CA CH CD) := by
  refine ⟨f, fd, F.ok sc_acts_answer (fun vs H Q E h => ?_) (fun cdv A outer s H vs Q E hr h => ?_), g, F.kp, F.binds fun _ _ _ _ _ _ us hl => match us, hl with | [_], _ => rfl⟩
  · obtain ⟨_, _, rfl, _⟩ := h
    rfl
  · obtain ⟨B, x, rfl, HB, hx, q⟩ := h
    refine ⟨_, (pss_one (ps_ret (pe_own h_cases_answer (hr.mono (by decide)) rfl (pa_cons (pe_fld (pv 0) (by rfl)) pa_nil)))), ?_⟩
    have h8 := hx.acts
    have hE : EvL (tCall (sp_cases_answer K) [] E0 (tCons (tFld K (tVar 0) "acts") tNil)) (start ["house"] [.ref B.h]) H (bytesV ((Pn16.acts x).length :: numsOf (Pn16.acts x))) := fun H1 e1 Q1 z1 => ev_hacts HB HC (ev_var rfl) H1 e1 _ fun H2 e2 => ⟨B.al, B.aa, _, rfl, sq_of ((e1.trans e2) _ _ HB.acts), HB.aa.mono (e1.trans e2), by omega, acts_two hx.text, fun l H3 hl e3 h3 => z1 l H3 (fresh_back e2 hl) (e2.trans e3) h3⟩
    exact s_retL hE q
/-! ### task_answer -/
abbrev s_task_answer : Stmt := top 88
theorem sc_task_answer : FnScope ["house"] ["house"] (defScope s_task_answer) := ⟨rfl, rfl, rfl, by decide +kernel, rfl, by decide +kernel, by decide +kernel⟩
def sp_task (K : PySem.W.Frag) (CT CA CH CD : Addr) : Sp := fun vs H Q _ => ∃ (B : HouseA) (x : Pn16.Text), vs = [.ref B.h] ∧ HouseAt K CT CA CH CD H B x ∧ ∀ l H2, H l = none → Ex H H2 → H2 l = some (.lst (bytesV [(Pn16.facts x).length, Pn16.setOf x x.now, Pn16.setOf x x.want])) → Q (.ref l) H2
theorem has_task_answer {f : Addr} {fd : FuncData} (F : Fun K "task_answer" "task_answer" s_task_answer f fd) (O : Own mg) (HC : HCls K CT CA CH CD) (g : mg "task_answer" = some (.ref f)) : Has P w K mg base 1 "task_answer" ["house"] (sp_task K CT CA CH CD) := by
  refine ⟨f, fd, F.ok sc_task_answer (fun vs H Q E h => ?_) (fun cdv A outer s H vs Q E hr h => ?_), g, F.kp, F.binds fun _ _ _ _ _ _ us hl => match us, hl with | [_], _ => rfl⟩
  · obtain ⟨_, _, rfl, _⟩ := h
    rfl
  · obtain ⟨B, x, rfl, HB, q⟩ := h
    refine ⟨_, (pss_one (ps_ret (pe_lst (pa_cons (pe_callB call_len_seq (by rfl) O.len (by decide +kernel) (pa_cons (pe_fld (pv 0) (by rfl)) pa_nil)) (pa_cons (pe_fld (pv 0) (by rfl)) (pa_cons (pe_fld (pv 0) (by rfl)) pa_nil)))))), ?_⟩
    refine s_retL (el_lst (vs := [.int ((B.fa.map V.ref).length : Nat), .int (Pn16.setOf x x.now : Nat), .int (Pn16.setOf x x.want : Nat)]) (ea_cons (ev_len (K := K) (ev_hfacts HB HC (ev_var rfl)) (sq_of HB.facts)) (ea_cons (ev_hfirst HB HC (ev_var rfl)) (ea_cons (ev_hwanted HB HC (ev_var rfl)) ea_nil))) (by simp)) fun l H3 hl e3 h3 => q l H3 hl e3 ?_
    rw [h3, List.length_map, HB.fa.length]
    rfl
/-! ### a new house -/
abbrev s_houseInit : Stmt := inClass (top 79) 0
theorem sc_houseInit : FnScope ["self"] ["self"] (defScope s_houseInit) := ⟨rfl, rfl, rfl, by decide +kernel, rfl, by decide +kernel, by decide +kernel⟩
def sp_houseInit (K : PySem.W.Frag) (CT CA CH CD : Addr) : Sp := fun vs H Q _ => ∃ (p dx : Addr), vs = [.ref p] ∧ H p = some (.ins CH dx []) ∧ ∀ (B : HouseA) H', B.h = p → HouseAt K CT CA CH CD H' B Pn16.blank → (∀ l ∈ B.lists, H l = none) → (∀ b o, H b = some o → b ≠ p → H' b = some o) → Q .non H'
theorem ok_houseInit {f : Addr} {fd : FuncData} (F : Fun K "__init__" "House.__init__" s_houseInit f fd) (HC : HCls K CT CA CH CD) (MT : Made P w K mg base "Text" CT ["self"] (sp_textInit CT CA)) : FnOk P w K mg base CX0 3 f fd ["self"] (sp_houseInit K CT CA CH CD) := by
  refine F.ok sc_houseInit (fun vs H Q E h => ?_) (fun cdv A outer s H vs Q E hr h => ?_)
  · obtain ⟨p, dx, rfl, _⟩ := h
    rfl
  · obtain ⟨p, dx, rfl, hp, q⟩ := h
    obtain ⟨fT, fdT, M_Text, G_Text, b_Text⟩ := MT.ex
    refine ⟨_, (pss_cons (ps_fld (pv 0) (pe_make0 M_Text G_Text (hr.mono (by decide)) rfl MT.g b_Text .nil pass0 ) rfl)
      (pss_cons (ps_fld (pv 0) (pe_lst pa_nil) rfl)
      (pss_cons (ps_fld (pv 0) (pe_lst pa_nil) rfl)
      (pss_cons (ps_fld (pv 0) (pe_lst pa_nil) rfl)
      (pss_cons (ps_fld (pv 0) pe_int rfl)
      (pss_one (ps_fld (pv 0) pe_int rfl))))))), ?_⟩
    intro a da ha hda hne
    refine ⟨a, da, rfl, upd_same, fun A H1 eA T1 nd1 fr1 k1 => ⟨rfl, ?_⟩⟩
    have e1 : Ex H H1 := Same.made ha hda k1
    have fr0 : ∀ l ∈ A.lists, H l = none := fun l hl => made_fresh (fr1 l hl)
    have hp1 := e1 _ _ hp
    subst eA
    refine ⟨_, rfl, p, CH, dx, [], rfl, hp1, HC.h, HC.t, (by show 0 < 1000; decide), ?_⟩
    have B1 : Built H1 p CH dx (upd H1 p (.ins CH dx (putF "text" (.ref A.a) []))) [] [("text", .ref A.a)] := (Built.start hp1).put rfl (by decide +kernel)
    refine q_newl ["text"] B1 rfl HC.h HC.f rfl (by decide) (by decide +kernel) fun fl H2 B2 => ?_
    refine q_newl ["text", "facts"] B2 rfl HC.h HC.a rfl (by decide) (by decide +kernel) fun al H3 B3 => ?_
    refine q_newl ["text", "facts", "acts"] B3 rfl HC.h HC.d rfl (by decide) (by decide +kernel) fun dl H4 B4 => ?_
    refine q_newe ["text", "facts", "acts", "deeds"] (v := .int (0 : Nat)) B4 rfl (fun Q q => q) HC.h HC.s rfl (by decide) (by decide +kernel) fun H5 B5 => ?_
    refine s_newe ["text", "facts", "acts", "deeds", "first"] (v := .int (0 : Nat)) B5 rfl (fun Q q => q) HC.h HC.w rfl (by decide) (by decide +kernel) fun H6 B6 => ?_
    have k : InsKept H1 H6 p CH := ⟨⟨_, _, hp1⟩, B6.keep⟩
    have hl := B6.lst
    refine q ⟨p, dx, A, fl, al, dl, [], [], []⟩ H6 rfl ⟨B6.ins, k.text HC T1, hl _ (by simp), .nil, hl _ (by simp), .nil, hl _ (by simp), .nil⟩ ?_ fun b o hb hn => k.keep b o (e1 _ _ hb) hn
    intro l hl2
    unfold HouseA.lists at hl2
    simp only [List.mem_cons, List.mem_append, List.map_nil, List.not_mem_nil, false_or] at hl2
    rcases hl2 with m | m | m | m
    · rw [m]
      exact fresh_back e1 (B6.new _ (by simp))
    · rw [m]
      exact fresh_back e1 (B6.new _ (by simp))
    · rw [m]
      exact fresh_back e1 (B6.new _ (by simp))
    · exact fr0 l m
end
end KP
set_option Elab.async false
set_option linter.all false
set_option maxRecDepth 100000
set_option maxHeartbeats 800000
/-! house.py: act, fact, after. -/
namespace KP
open PySem PySem.Spec PyProof.Rows L2 Evl
abbrev intsV (l : List Int) : List V := l.map V.int
theorem intsV_ints (l : List Nat) : intsV (intsOf l) = bytesV l := by
  unfold intsV intsOf bytesV
  rw [List.map_map] <;> rfl
theorem out_is (v : Int) (l : List Nat) : intsV (Pn16Neutral.out ⟨v, l⟩) = .int v :: bytesV l := by
  show V.int v :: intsV (intsOf l) = _
  rw [intsV_ints]
section
variable {K : PySem.W.Frag} {mg : Str → Option Value} {P : Program} {w : World} {base : Heap} {CT CA CH CD dR dC dM tO : Addr}
theorem el_catL {F : Hp} {σ : L2.St} {ta tb : TE} {xs ys : List V} (ha : EvL ta σ F xs) (hb : EvL tb σ F ys) (hl : xs.length + ys.length ≤ 100000) : EvL (tOp rCat ta tb) σ F (xs ++ ys) := fun H1 e1 Q q =>
  ha H1 e1 _ fun l H2 hl2 e2 h2 => hb H2 (e1.trans e2) _ fun r H3 hr e3 h3 => ⟨l, r, xs, ys, rfl, rfl, e3 _ _ h2, h3, sz_of hl, fun p hp => q p _ (fresh_back (e2.trans e3) hp) ((e2.trans e3).trans (Ex.new hp)) upd_same⟩
theorem name_short {x : Pn16.Text} (hx : TextOk x) {i : Nat} (hi : i < x.things.length) : (Pn16.thingName x i).length ≤ 8 := names_short (fun t ht => (hx.things.2.2 t ht).1) _ (name_mem hi).1
theorem say_short {x : Pn16.Text} (hx : TextOk x) {g : Nat × List Nat} (hg : g ∈ Pn16.acts x) : Short (sayWords x g) := by
  obtain ⟨s, _, e2, hm, ft⟩ := fits_of hg
  have hs := hx.acts.2.2 s hm
  have h2 : g.2.length ≤ 2 := by rw [ft.len]; exact hs.few
  unfold sayWords
  refine ⟨fun z => (nomatch z), by rw [List.length_cons, List.length_map]; omega, fun v hv => ?_⟩
  rcases List.mem_cons.mp hv with e | hv
  · rw [e, e2]
    exact name_len hs.name
  · obtain ⟨i, hi, rfl⟩ := List.mem_map.mp hv
    exact name_short hx (ft.args i hi)
theorem do_of {H : Hp} {x : Pn16.Text} {ds : List DeedA} {gs : List (Nat × List Nat)} (h : DeedsAt CD H x ds gs) : P2 (DoAt CD H) ds (gs.map (Pn16.actOf x)) := P2.mapR (P2.mono (fun _ _ z => z.ins) h)
/-! ### act_answer -/
abbrev s_act_answer : Stmt := top 89
theorem sc_act_answer : FnScope ["house", "which", "deed"] ["house", "which"] (defScope s_act_answer) := ⟨rfl, rfl, rfl, by decide +kernel, rfl, by decide +kernel, by decide +kernel⟩
def sp_act (K : PySem.W.Frag) (CT CA CH CD : Addr) : Sp := fun vs H Q _ => ∃ (B : HouseA) (x : Pn16.Text) (k : Nat), vs = [.ref B.h, .int (k : Nat)] ∧ HouseAt K CT CA CH CD H B x ∧ HouseOk x ∧ ∀ l H2, H l = none → Ex H H2 → H2 l = some (.lst (intsV (Pn16Neutral.out (Pn16.step ⟨x⟩ (.act k)).2))) → Q (.ref l) H2
theorem has_act_answer {f : Addr} {fd : FuncData} (F : Fun K "act_answer" "act_answer" s_act_answer f fd) (O : Own mg) (O2 : Own2 mg) (HC : HCls K CT CA CH CD) (DC : DCls K CD) (g : mg "act_answer" = some (.ref f)) (h_line_bytes : Has P w K mg base 1 "line_bytes" ["words"] (sp_line_bytes K)) : Has P w K mg base 2 "act_answer" ["house", "which"] (sp_act K CT CA CH CD) := by
  refine ⟨f, fd, F.ok sc_act_answer (fun vs H Q E h => ?_) (fun cdv A outer s H vs Q E hr h => ?_), g, F.kp, F.binds fun _ _ _ _ _ _ us hl => match us, hl with | [_, _], _ => rfl⟩
  · obtain ⟨_, _, _, rfl, _⟩ := h
    rfl
  · obtain ⟨B, x, k, rfl, HB, hx, q⟩ := h
    refine ⟨_, (pss_cons (ps_if (pt_cmpR op_ge (pv 1) (pe_callB call_len_seq (by rfl) O.len (by decide +kernel) (pa_cons (pe_fld (pv 0) (by rfl)) pa_nil)) (nomark _)) (pss_one (ps_ret (pe_lst (pa_cons (pe_gint O2.noneSuch rfl) pa_nil)))) pss_nil)
      (pss_cons (ps_set (i := 2) sc_act_answer.nd rfl (Or.inl rfl) (pe_ix ix_list (pe_fld (pv 0) (by rfl)) (pv 1) (fun _ _ => rfl)))
      (pss_one (ps_ret (pe_op op_cat (pe_lst (pa_cons (pe_fld (pv 2) (by rfl)) (pa_cons (pe_fld (pv 2) (by rfl)) (pa_cons (pe_fld (pv 2) (by rfl)) (pa_cons (pe_fld (pv 2) (by rfl)) (pa_cons (pe_fld (pv 2) (by rfl)) pa_nil)))))) (pe_own h_line_bytes (hr.mono (by decide)) rfl (pa_cons (pe_fld (pv 2) (by rfl)) pa_nil))))))), ?_⟩
    have hlen := HB.ds.length
    refine q_when (et_cmpI (ev_var (v := .int (k : Nat)) rfl) (ev_len (K := K) (ev_hdeeds HB HC (ev_var rfl)) (sq_of HB.deeds))) (fun c H1 e1 => ?_) (fun c H1 e1 => ?_)
    · rw [decide_eq_true_eq, List.length_map] at c
      have hn : (Pn16.acts x)[k]? = none := List.getElem?_eq_none (by omega)
      refine s_retL (el_lst (vs := [.int (-2)]) (ea_cons ev_c ea_nil) (by simp)) fun l H2 hl e2 h2 => q l H2 (fresh_back e1 hl) (e1.trans e2) ?_
      rw [h2]
      have e : (Pn16.step ⟨x⟩ (.act k)).2 = ⟨-2, []⟩ := by
        show (match (Pn16.acts x)[k]? with
          | none => ((⟨x⟩ : Pn16.House), Pn16.ok (-2))
          | some g => (⟨x⟩, ⟨((Pn16.actOf x g).cost : Nat), [(Pn16.actOf x g).pre, (Pn16.actOf x g).no, (Pn16.actOf x g).add, (Pn16.actOf x g).del] ++ Pn16.say x g⟩)).2 = _
        rw [hn] <;> rfl
      rw [e, out_is] <;> rfl
    · rw [decide_eq_false_iff_not, List.length_map] at c
      have hk : k < B.ds.length := by omega
      have hd : B.ds[k]? = some B.ds[k] := List.getElem?_eq_getElem hk
      obtain ⟨gg, hg1, hg2⟩ := P2.geta HB.ds hd
      have hgm := List.mem_of_getElem? hg1
      have HB1 := HB.mono e1
      refine q_asg (v := .ref (B.ds[k]).b) (ev_op (ev_hdeeds HB1 HC (ev_var rfl)) (ev_var rfl) (rv_ixL (sq_of HB1.deeds) (atI_nat (by rw [List.getElem?_map, hd]; rfl)))) fun H2 e2 => ?_
      have D2 := hg2.mono (e1.trans e2)
      have sh := say_short hx.text hgm
      have hsum := short_sum sh
      have hsl := short_line sh
      refine s_retL (el_catL (el_lst (vs := bytesV [(Pn16.actOf x gg).cost, (Pn16.actOf x gg).pre, (Pn16.actOf x gg).no, (Pn16.actOf x gg).add, (Pn16.actOf x gg).del]) (ea_cons (ev_dcost D2.ins DC (ev_var rfl)) (ea_cons (ev_dneeds D2.ins DC (ev_var rfl)) (ea_cons (ev_dbars D2.ins DC (ev_var rfl)) (ea_cons (ev_dbrings D2.ins DC (ev_var rfl)) (ea_cons (ev_dtakes D2.ins DC (ev_var rfl)) ea_nil))))) (by simp)) (el_call (xs := bytesV (Pn16.line (sayWords x gg))) (ea_cons (ev_dwords D2.ins DC (ev_var rfl)) ea_nil) fun H3 e3 Q3 q3 => ⟨_, sayWords x gg, rfl, sq_of (e3 _ _ D2.words), sh.1, by omega, q3⟩) (by rw [List.length_map, List.length_map]; simp; omega)) fun l H3 hl e3 h3 => q l H3 (fresh_back (e1.trans e2) hl) ((e1.trans e2).trans e3) ?_
      rw [h3]
      have e : (Pn16.step ⟨x⟩ (.act k)).2 = ⟨((Pn16.actOf x gg).cost : Nat), [(Pn16.actOf x gg).pre, (Pn16.actOf x gg).no, (Pn16.actOf x gg).add, (Pn16.actOf x gg).del] ++ Pn16.line (sayWords x gg)⟩ := by
        show (match (Pn16.acts x)[k]? with
          | none => ((⟨x⟩ : Pn16.House), Pn16.ok (-2))
          | some g => (⟨x⟩, ⟨((Pn16.actOf x g).cost : Nat), [(Pn16.actOf x g).pre, (Pn16.actOf x g).no, (Pn16.actOf x g).add, (Pn16.actOf x g).del] ++ Pn16.say x g⟩)).2 = _
        rw [hg1] <;> rfl
      rw [e, out_is] <;> rfl
/-! ### fact_answer -/
abbrev s_fact_answer : Stmt := top 91
theorem sc_fact_answer : FnScope ["house", "which", "case", "words"] ["house", "which"] (defScope s_fact_answer) := ⟨rfl, rfl, rfl, by decide +kernel, rfl, by decide +kernel, by decide +kernel⟩
def sp_fact (K : PySem.W.Frag) (CT CA CH CD : Addr) : Sp := fun vs H Q _ => ∃ (B : HouseA) (x : Pn16.Text) (k : Nat), vs = [.ref B.h, .int (k : Nat)] ∧ HouseAt K CT CA CH CD H B x ∧ HouseOk x ∧ ∀ l H2, H l = none → Ex H H2 → H2 l = some (.lst (intsV (Pn16Neutral.out (Pn16.step ⟨x⟩ (.fact k)).2))) → Q (.ref l) H2
theorem has_fact_answer {f : Addr} {fd : FuncData} (F : Fun K "fact_answer" "fact_answer" s_fact_answer f fd) (O : Own mg) (O2 : Own2 mg) (C : Clss K CT CA) (HC : HCls K CT CA CH CD) (g : mg "fact_answer" = some (.ref f)) (h_thing_names : Has P w K mg base 1 "thing_names" ["text", "things"] (sp_thing_names K CT CA)) (h_line_bytes : Has P w K mg base 1 "line_bytes" ["words"] (sp_line_bytes K)) : Has P w K mg base 2 "fact_answer" ["house", "which"] (sp_fact K CT CA CH CD) := by
  refine ⟨f, fd, F.ok sc_fact_answer (fun vs H Q E h => ?_) (fun cdv A outer s H vs Q E hr h => ?_), g, F.kp, F.binds fun _ _ _ _ _ _ us hl => match us, hl with | [_, _], _ => rfl⟩
  · obtain ⟨_, _, _, rfl, _⟩ := h
    rfl
  · obtain ⟨B, x, k, rfl, HB, hx, q⟩ := h
    refine ⟨_, (pss_cons (ps_if (pt_cmpR op_ge (pv 1) (pe_callB call_len_seq (by rfl) O.len (by decide +kernel) (pa_cons (pe_fld (pv 0) (by rfl)) pa_nil)) (nomark _)) (pss_one (ps_ret (pe_lst (pa_cons (pe_gint O2.noneSuch rfl) pa_nil)))) pss_nil)
      (pss_cons (ps_set (i := 2) sc_fact_answer.nd rfl (Or.inl rfl) (pe_ix ix_list (pe_fld (pv 0) (by rfl)) (pv 1) (fun _ _ => rfl)))
      (pss_cons (ps_set (i := 3) sc_fact_answer.nd rfl (Or.inl rfl) (pe_op op_cat (pe_lst (pa_cons (pe_ix ix_list (pe_fld (pe_fld (pv 0) (by rfl)) (by rfl)) (pe_ix ix_tup (pv 2) pe_int (fun _ _ => rfl)) (fun _ _ => rfl)) pa_nil)) (pe_own h_thing_names (hr.mono (by decide)) rfl (pa_cons (pe_fld (pv 0) (by rfl)) (pa_cons (pe_ix ix_tup (pv 2) pe_int (fun _ _ => rfl)) pa_nil)))))
      (pss_one (ps_ret (pe_op op_cat (pe_lst (pa_cons (pe_callB call_len_seq (by rfl) O.len (by decide +kernel) (pa_cons (pe_ix ix_tup (pv 2) pe_int (fun _ _ => rfl)) pa_nil)) pa_nil)) (pe_own h_line_bytes (hr.mono (by decide)) rfl (pa_cons (pv 3) pa_nil)))))))), ?_⟩
    have hlen := HB.fa.length
    refine q_when (et_cmpI (ev_var (v := .int (k : Nat)) rfl) (ev_len (K := K) (ev_hfacts HB HC (ev_var rfl)) (sq_of HB.facts))) (fun c H1 e1 => ?_) (fun c H1 e1 => ?_)
    · rw [decide_eq_true_eq, List.length_map] at c
      have hn : (Pn16.facts x)[k]? = none := List.getElem?_eq_none (by omega)
      refine s_retL (el_lst (vs := [.int (-2)]) (ea_cons ev_c ea_nil) (by simp)) fun l H2 hl e2 h2 => q l H2 (fresh_back e1 hl) (e1.trans e2) ?_
      rw [h2]
      have e : (Pn16.step ⟨x⟩ (.fact k)).2 = ⟨-2, []⟩ := by
        show (match (Pn16.facts x)[k]? with
          | none => ((⟨x⟩ : Pn16.House), Pn16.ok (-2))
          | some g => (⟨x⟩, ⟨(g.2.length : Nat), Pn16.line (Pn16.factName x g.1 :: g.2.map (Pn16.thingName x))⟩)).2 = _
        rw [hn] <;> rfl
      rw [e, out_is] <;> rfl
    · rw [decide_eq_false_iff_not, List.length_map] at c
      have hk : k < B.fa.length := by omega
      have hd : B.fa[k]? = some B.fa[k] := List.getElem?_eq_getElem hk
      obtain ⟨gg, hg1, b, hc, hb⟩ := P2.geta HB.fa hd
      have hgm := List.mem_of_getElem? hg1
      obtain ⟨p, r⟩ := gg
      obtain ⟨hp, hrow⟩ := mem_facts.mp hgm
      obtain ⟨_, hargs, _⟩ := mem_rows.mp hrow
      have h2 := facts_two hx.text _ hgm
      have HB1 := HB.mono e1
      refine q_asg (v := .ref B.fa[k]) (ev_op (ev_hfacts HB1 HC (ev_var rfl)) (ev_var rfl) (rv_ixL (sq_of HB1.facts) (atI_nat (by rw [List.getElem?_map, hd]; rfl)))) fun H2 e2 => ?_
      have e12 := e1.trans e2
      have HB2 := HB.mono e12
      have hc2 := ex_t e12 hc
      have hb2 := ex_t e12 hb
      refine q_asgL (xs := [V.str (S (Pn16.factName x p))] ++ txts (r.map (Pn16.thingName x))) (el_catL (el_lst (vs := [V.str (S (Pn16.factName x p))]) (ea_cons (ev_txt (K := K) (ev_facts HB2.text C (ev_htext HB2 HC (ev_var rfl))) (ev_op (ev_var rfl) ev_c (rv_ixT hc2 (atI_nat (j := 0) rfl))) (sq_of HB2.text.facts) (name_mem hp).2) ea_nil) (by simp)) (el_call (vs := [.ref B.A.a, .ref b]) (ea_cons (ev_htext HB2 HC (ev_var rfl)) (ea_cons (ev_op (ev_var rfl) ev_c (rv_ixT hc2 (atI_nat (j := 1) rfl))) ea_nil)) fun H3 e3 Q3 q3 => ⟨B.A, x, b, r, rfl, HB2.text.mono e3, ex_t e3 hb2, by have : r.length ≤ 2 := h2; omega, hargs, q3⟩) (by rw [List.length_map, List.length_map]; have : r.length ≤ 2 := h2; simp; omega)) fun wl H3 hwl e3 h3 => ?_
      have e13 := e12.trans e3
      have hb3 := ex_t e3 hb2
      have sh : Short (Pn16.factName x p :: r.map (Pn16.thingName x)) := by
        refine ⟨fun z => (nomatch z), by rw [List.length_cons, List.length_map]; have : r.length ≤ 2 := h2; omega, fun v hv => ?_⟩
        rcases List.mem_cons.mp hv with e | hv
        · rw [e]
          exact names_short (fun t ht => (hx.text.facts.2.2 t ht).1) _ (name_mem hp).1
        · obtain ⟨i, hi, rfl⟩ := List.mem_map.mp hv
          exact name_short hx.text (hargs i hi)
      have hsum := short_sum sh
      have hsl := short_line sh
      have hlenT : Ev (tCB (rLenS K) (tCons (tOp (rIxT K) (tVar 2) (tC (.int 1))) tNil)) [some (.ref B.h), some (.int (k : Nat)), some (.ref B.fa[k]), some (.ref wl)] H3 (.int (r.length : Nat)) := fun H4 e4 Q4 q4 => (ev_op (ev_var rfl) ev_c (rv_ixT (ex_t e3 hc2) (atI_nat (j := 1) rfl))) H4 e4 _ fun H5 e5 => ⟨b, bytesV r, rfl, .inr (ex_t (e4.trans e5) hb3), by
        rw [List.length_map]
        exact q4 H5 e5⟩
      refine s_retL (el_catL (el_lst (vs := [.int (r.length : Nat)]) (ea_cons hlenT ea_nil) (by simp)) (el_call (xs := bytesV (Pn16.line (Pn16.factName x p :: r.map (Pn16.thingName x)))) (ea_cons (ev_var rfl) ea_nil) fun H4 e4 Q4 q4 => ⟨wl, Pn16.factName x p :: r.map (Pn16.thingName x), rfl, sq_of (e4 _ _ h3), sh.1, by omega, q4⟩) (by rw [List.length_map]; simp; omega)) fun l H4 hl e4 h4 => q l H4 (fresh_back e13 hl) (e13.trans e4) ?_
      rw [h4]
      have e : (Pn16.step ⟨x⟩ (.fact k)).2 = ⟨(r.length : Nat), Pn16.line (Pn16.factName x p :: r.map (Pn16.thingName x))⟩ := by
        show (match (Pn16.facts x)[k]? with
          | none => ((⟨x⟩ : Pn16.House), Pn16.ok (-2))
          | some g => (⟨x⟩, ⟨(g.2.length : Nat), Pn16.line (Pn16.factName x g.1 :: g.2.map (Pn16.thingName x))⟩)).2 = _
        rw [hg1] <;> rfl
      rw [e, out_is] <;> rfl
/-! ### after_answer -/
abbrev s_after_answer : Stmt := top 92
theorem sc_after_answer : FnScope ["house", "acts", "so"] ["house", "acts"] (defScope s_after_answer) := ⟨rfl, rfl, rfl, by decide +kernel, rfl, by decide +kernel, by decide +kernel⟩
def sp_after (K : PySem.W.Frag) (CT CA CH CD : Addr) : Sp := fun vs H Q _ => ∃ (B : HouseA) (x : Pn16.Text) (a : Addr) (l : List Nat), vs = [.ref B.h, .ref a] ∧ HouseAt K CT CA CH CD H B x ∧ SqL K H a (bytesV l) ∧ ∀ p H2, H p = none → Ex H H2 → H2 p = some (.lst (intsV (Pn16Neutral.out (Pn16.step ⟨x⟩ (.after l)).2))) → Q (.ref p) H2
theorem et_isN {F : Hp} {σ : L2.St} {ta : TE} {v : V} (ha : Ev ta σ F v) : EvT (tTest (tOp (fun x y H Q => y = .non ∧ Q (.bl (decide (x = .non))) H) ta (tC .non))) σ F (decide (v = .non)) := et_test (ev_op ha ev_c fun H1 _ Q q => ⟨rfl, q H1 (Ex.refl H1)⟩)
theorem has_after_answer {f : Addr} {fd : FuncData} (F : Fun K "after_answer" "after_answer" s_after_answer f fd) (O : Own mg) (O2 : Own2 mg) (HC : HCls K CT CA CH CD) (g : mg "after_answer" = some (.ref f)) (h_so_behind_all : Has P w K mg base 3 "so_behind_all" ["deeds", "so", "numbers"] (sp_behind_all K CD)) (h_has_all : Has P w K mg base 1 "has_all" ["so", "facts"] sp_has_all) : Has P w K mg base 4 "after_answer" ["house", "acts"] (sp_after K CT CA CH CD) := by
  refine ⟨f, fd, F.ok sc_after_answer (fun vs H Q E h => ?_) (fun cdv A outer s H vs Q E hr h => ?_), g, F.kp, F.binds fun _ _ _ _ _ _ us hl => match us, hl with | [_, _], _ => rfl⟩
  · obtain ⟨_, _, _, _, rfl, _⟩ := h
    rfl
  · obtain ⟨B, x, a, l, rfl, HB, ha, q⟩ := h
    refine ⟨_, (pss_cons (ps_set (i := 2) sc_after_answer.nd rfl (Or.inl rfl) (pe_own h_so_behind_all (hr.mono (by decide)) rfl (pa_cons (pe_fld (pv 0) (by rfl)) (pa_cons (pe_fld (pv 0) (by rfl)) (pa_cons (pv 1) pa_nil)))))
      (pss_cons (ps_if (pt_cmpR op_isN (pv 2) pe_non (nomark _)) (pss_one (ps_ret (pe_lst (pa_cons (pe_gint O2.notDone rfl) pa_nil)))) pss_nil)
      (pss_one (ps_ret (pe_lst (pa_cons (pe_ifExp (pt_val (pe_own h_has_all (hr.mono (by decide)) rfl (pa_cons (pv 2) (pa_cons (pe_fld (pv 0) (by rfl)) pa_nil)))) pe_int pe_int) (pa_cons (pv 2) pa_nil))))))), ?_⟩
    refine q_asg (v := goneV ((Pn16.task x).goes (Pn16.task x).start l)) (KP.ev_call (ea_cons (ev_hdeeds HB HC (ev_var rfl)) (ea_cons (ev_hfirst HB HC (ev_var rfl)) (ea_cons (ev_var rfl) ea_nil))) fun H1 e1 Q1 q1 => ⟨B.dl, a, B.ds, Pn16.task x, (Pn16.task x).start, l, rfl, sq_of (e1 _ _ HB.deeds), do_of (HB.ds.mono e1), ex_l e1 ha, q1⟩) fun H1 e1 => ?_
    have HB1 := HB.mono e1
    have hstep : (Pn16.step ⟨x⟩ (.after l)).2 = match (Pn16.task x).goes (Pn16.task x).start l with
      | none => Pn16.ok (-5)
      | some s => ⟨if (Pn16.task x).done s = true then 1 else 0, [s]⟩ := rfl
    cases hg : (Pn16.task x).goes (Pn16.task x).start l with
    | none =>
      rw [hg] at hstep
      refine q_when (et_isN (ev_var rfl)) (fun c H2 e2 => ?_) (fun c H2 e2 => ?_)
      · refine s_retL (el_lst (vs := [.int (-5)]) (ea_cons ev_c ea_nil) (by simp)) fun p H3 hp e3 h3 => q p H3 (fresh_back (e1.trans e2) hp) ((e1.trans e2).trans e3) ?_
        rw [h3, hstep, Pn16.ok, out_is] <;> rfl
      · exact absurd c (by decide)
    | some u =>
      rw [hg] at hstep
      refine q_when (et_isN (ev_var rfl)) (fun c H2 e2 => ?_) (fun c H2 e2 => ?_)
      · exact absurd (of_decide_eq_true c) (fun z => nomatch z)
      · have HB2 := HB1.mono e2
        refine s_retL (el_lst (vs := [.int (if (Pn16.task x).done u = true then 1 else 0), .int (u : Nat)]) (ea_cons (ev_if (b := Pn.within (Pn16.setOf x x.want) u) (et_B (KP.ev_call (ea_cons (ev_var (v := .int (u : Nat)) rfl) (ea_cons (ev_hwanted HB2 HC (ev_var rfl)) ea_nil)) fun H3 e3 Q3 q3 => ⟨u, _, rfl, q3⟩)) (fun hb => ?_) fun hb => ?_) (ea_cons (ev_var rfl) ea_nil)) (by simp)) fun p H3 hp e3 h3 => q p H3 (fresh_back (e1.trans e2) hp) ((e1.trans e2).trans e3) ?_
        · have : (Pn16.task x).done u = true := hb
          rw [if_pos this]
          exact ev_c
        · have : ¬ (Pn16.task x).done u = true := by
            have h2 : (Pn16.task x).done u = false := hb
            rw [h2]
            exact Bool.false_ne_true
          rw [if_neg this]
          exact ev_c
        · rw [h3, hstep, out_is] <;> rfl
end
end KP
set_option Elab.async false
set_option linter.all false
set_option maxRecDepth 100000
set_option maxHeartbeats 1600000
/-! min(l, key=f) over ints, f told by its calls. -/
namespace KP
open PySem PySem.Spec PyProof.Rows L2 Evl
section
variable {X : Cx} {pins : List (Addr × Obj)} {σ : L2.St} {H : Hp} {l f N T : Addr} {fo : Obj}
/-- what a call of the key leaves -/
def KeyEnd (X : Cx) (pins : List (Addr × Obj)) (σ : L2.St) (H : Hp) (s : Shared) (k : Int) (u : Value) (s2 : Shared) : Prop :=
  (∃ t, u = .int k t) ∧ Inv X pins σ H s2 ∧ ∀ b o, s.heap.get? b = some o → H b = none → b ∉ frs X.stack → s2.heap.get? b = some o
def KeyOk (X : Cx) (pins : List (Addr × Obj)) (σ : L2.St) (H : Hp) (f : Addr) (fo : Obj) (ns : List Int) (kf : Int → Int) : Prop :=
  ∀ n ∈ ns, ∀ (t : Tok) (s : Shared), Inv X pins σ H s → s.heap.get? f = some fo → wpAny (model X.prog X.w) X.A.in1 (call (.ref f) [.int n t]) (KeyEnd X pins σ H s (kf n)) (fun _ _ => False) s
/-- where the loop stands: N its iterator, T the best so far -/
structure MinAt (X : Cx) (pins : List (Addr × Obj)) (σ : L2.St) (H : Hp) (l f N T : Addr) (fo : Obj) : Prop where
  calm : X.A.handled = none
  okN : FpOk X pins H N
  okT : FpOk X pins H T
  lN : l ≠ N
  TN : T ≠ N
  fN : f ≠ N
  fT : f ≠ T
  f0 : H f = none
  fF : f ∉ frs X.stack
theorem MinAt.nF (M : MinAt X pins σ H l f N T fo) {s : Shared} (I : Inv X pins σ H s) : N ∉ frs X.stack ∧ T ∉ frs X.stack := by
  refine ⟨fun m => ?_, fun m => ?_⟩
  · rcases List.mem_cons.mp (I.stkSub _ m) with e | m
    · exact M.okN.2.1 e
    · exact M.okN.2.2.1 m
  · rcases List.mem_cons.mp (I.stkSub _ m) with e | m
    · exact M.okT.2.1 e
    · exact M.okT.2.2.1 m
theorem ints_at {ns : List Int} {s : Shared} (I : Inv X pins σ H s) (hq : SqL X.K H l (ns.map V.int)) : ∃ us : List Value, us.length = ns.length ∧ s.heap.IsList l us.toArray ∧ ∀ (i : Nat) (v : Value), us[i]? = some v → ∃ n t, ns[i]? = some n ∧ v = .int n t := by
  obtain ⟨us, rv, pl, _⟩ := I.list hq
  have hl := rv.length
  rw [List.length_map] at hl
  refine ⟨us, hl.symm, pl.isList, fun i v hv => ?_⟩
  have hi : i < ns.length := by
    have := (List.getElem?_eq_some_iff.mp hv).1
    omega
  obtain ⟨u, hu, t, ru⟩ := rv.get (i := i) (x := V.int ns[i]) (by rw [List.getElem?_map, List.getElem?_eq_getElem hi]; rfl)
  rw [hv] at hu
  cases hu
  exact ⟨ns[i], t, List.getElem?_eq_getElem hi, ru⟩
theorem min_turns {ns : List Int} {kf : Int → Int} {R : Result → Shared → Prop} (M : MinAt X pins σ H l f N T fo) (hq : SqL X.K H l (ns.map V.int)) (hk : KeyOk X pins σ H f fo ns kf)
    (fin : ∀ (m : Int) (t : Tok) (s : Shared), m ∈ ns → (∀ n ∈ ns, kf m ≤ kf n) → Inv X pins σ H s → R (.ok (.ret (.int m t))) s) :
    ∀ (r j : Nat) (s : Shared) (m : Int) (t tb : Tok) (c : Nat), ns.length - j = r → j ≤ ns.length → Inv X pins σ H s → s.heap.get? f = some fo → s.heap.IsListIter N l j → s.heap.get? T = some (seqObj "list" #[.int m t, .int (kf m) tb] c) → m ∈ ns → (∀ i, i < j → ∀ n, ns[i]? = some n → kf m ≤ kf n) →
      codeAny (model X.prog X.w) X.A (.builtin "min.loop" ⟨[.ref N, .ref f, .ref T], []⟩) R s := by
  have hname : (toString "min" ++ (toString ".loop") : String) = "min.loop" := by decide
  intro r
  induction r with
  | zero =>
    intro j s m t tb c hr hj I hf hit hT hm hbest
    obtain ⟨us, hul, hls, hus⟩ := ints_at I hq
    have hsz : us.toArray.size = j := by rw [List.size_toArray]; omega
    have W := Walks.list (prog := X.prog) (w := X.w) (A := X.A.in1) M.calm N l M.lN us.toArray
    refine codeAny_builtin PySem.F.entry_min_loop ?_
    rw [Around.under_plainId (PySem.F.plain_min_loop) _]
    show wpAny _ X.A.in1 (seqItems? (.ref T) >>= _) _ _ _
    refine wpAny_bind (wpAny_seqItems hT rfl ?_)
    show wpAny _ X.A.in1 (tryCatch (pyNext (.ref N)) _ >>= _) _ _ _
    refine wpAny_bind (wpAny_tryCatch (W.done _ _ _ ⟨by rw [hsz]; exact hit, hls⟩ fun h2 tk2 kp => ?_))
    have T2 := kp T _ (by simpa using M.TN) hT
    have I2 : Inv X pins σ H { s with heap := h2, toks := tk2 } := I.turnedL (ch := [N]) kp fun b hb => by rw [List.mem_singleton.mp hb]; exact M.okN
    have sb := Heap.SameBut.update h2 T (Obj.mapSeq fun _ => (#[] : Array Value))
    show wpAny _ X.A.in1 (updateSeq T (fun _ => #[]) >>= _) _ _ _
    refine wpAny_bind (wpAny_updateSeq T2 rfl (wpAny_bind (wpAny_letGo (wpAny_pure ?_))))
    refine fin m t _ hm (fun n hn => ?_) (I2.turnedL (t' := tk2) (ch := [T]) (fun b o hb e => ?_) fun b hb => by rw [List.mem_singleton.mp hb]; exact M.okT)
    · obtain ⟨i, hi⟩ := List.mem_iff_getElem?.mp hn
      have := (List.getElem?_eq_some_iff.mp hi).1
      exact hbest i (by omega) n hi
    · exact (sb.2 b (by simpa using hb)).trans e
  | succ r ih =>
    intro j s m t tb c hr hj I hf hit hT hm hbest
    obtain ⟨us, hul, hls, hus⟩ := ints_at I hq
    have W := Walks.list (prog := X.prog) (w := X.w) (A := X.A.in1) M.calm N l M.lN us.toArray
    obtain ⟨nN, nT⟩ := M.nF I
    refine codeAny_builtin PySem.F.entry_min_loop ?_
    rw [Around.under_plainId (PySem.F.plain_min_loop) _]
    show wpAny _ X.A.in1 (seqItems? (.ref T) >>= _) _ _ _
    refine wpAny_bind (wpAny_seqItems hT rfl ?_)
    show wpAny _ X.A.in1 (tryCatch (pyNext (.ref N)) _ >>= _) _ _ _
    refine wpAny_bind (wpAny_tryCatch (W.item j _ _ _ (by rw [List.size_toArray]; omega) ⟨hit, hls⟩ fun v h2 tk2 hP st2 kp => ?_))
    obtain ⟨n, tn, hn, ev⟩ := hus j v (by simpa using hP)
    subst ev
    have T2 := kp T _ (by simpa using M.TN) hT
    have f2 := kp f _ (by simpa using M.fN) hf
    obtain ⟨oN, hoN, hcN, hdN⟩ := id st2.1
    have I2 : Inv X pins σ H { s with heap := h2, toks := tk2 } := I.turnedL (ch := [N]) kp fun b hb => by rw [List.mem_singleton.mp hb]; exact M.okN
    show wpAny _ X.A.in1 (tryCatch (holding [Value.int n tn] (call (.ref f) [Value.int n tn])) _ >>= _) _ _ _
    refine wpAny_bind (wpAny_tryCatch (wpAny_holding (wpAny_mono (hk n (List.mem_of_getElem? hn) tn _ I2 f2) (fun u s3 he => ?_) fun _ _ hF => hF.elim)))
    obtain ⟨⟨t3, rfl⟩, I3, kp3⟩ := he
    have T3 := kp3 T _ T2 M.okT.1 nT
    have f3 := kp3 f _ f2 M.f0 M.fF
    have N3 := kp3 N _ hoN M.okN.1 nN
    show wpAny _ X.A.in1 (tryCatch (holding [Value.int n tn, .int (kf n) t3] (richCompare .Lt (.int (kf n) t3) (.int (kf m) tb) >>= _)) _ >>= _) _ _ _
    refine wpAny_bind (wpAny_tryCatch (wpAny_holding (wpAny_bind (CmpOf.ints_lt (prog := X.prog) (w := X.w) (A := X.A.in1) (P := fun i v => ∃ t, v = .int ([kf n, kf m].getD i 0) t) (fun i => [kf n, kf m].getD i 0) (fun i v h => h) 0 1 _ _ _ _ _ ⟨t3, rfl⟩ ⟨tb, rfl⟩ ?_))))
    refine wpAny_bind (wpAny_holding <| wpAny_truthy_bool ?_)
    refine wpAny_bind (wpAny_letGo (wpAny_pure ?_))
    show wpAny _ _ (if decide (kf n < kf m) = true then _ else _) _ _ _
    by_cases hb : kf n < kf m
    · have sb := Heap.SameBut.update s3.heap T (Obj.mapSeq fun _ => #[Value.int n tn, .int (kf n) t3])
      obtain ⟨c2, hc2⟩ : ∃ c2, (s3.heap.update T (Obj.mapSeq fun _ => #[Value.int n tn, .int (kf n) t3])).get? T = some (seqObj "list" #[Value.int n tn, .int (kf n) t3] c2) := ⟨_, get?_update_seq T3 fun _ => #[Value.int n tn, .int (kf n) t3]⟩
      rw [if_pos (decide_eq_true hb)]
      refine wpAny_bind (wpAny_updateSeq T3 rfl (wpAny_bind (wpAny_letGo ?_)))
      rw [hname]
      refine wpAny_pure ⟨plainId_quiet (PySem.F.plain_min_loop) _, ih (j + 1) _ n tn t3 c2 (by omega) (by omega) (I3.turnedL (t' := s3.toks) (ch := [T]) (fun b o hb e => (sb.2 b (by simpa using hb)).trans e) fun b hb => by rw [List.mem_singleton.mp hb]; exact M.okT) ((sb.2 f M.fT).trans f3) ⟨oN, (sb.2 N M.TN.symm).trans N3, hcN, hdN⟩ hc2 (List.mem_of_getElem? hn) fun i hi n' hn' => ?_⟩
      by_cases e : i = j
      · subst e
        rw [hn] at hn'
        cases hn'
        exact Int.le_refl _
      · have := hbest i (by omega) n' hn'
        omega
    · rw [if_neg (by rw [decide_eq_true_eq]; exact hb)]
      refine wpAny_bind (wpAny_letGo ?_)
      rw [hname]
      refine wpAny_pure ⟨plainId_quiet (PySem.F.plain_min_loop) _, ih (j + 1) s3 m t tb c (by omega) (by omega) I3 f3 ⟨oN, N3, hcN, hdN⟩ T3 hm fun i hi n' hn' => ?_⟩
      by_cases e : i = j
      · subst e
        rw [hn] at hn'
        cases hn'
        omega
      · exact hbest i (by omega) n' hn'
theorem min_key {ns : List Int} {kf : Int → Int} {Q : Value → Shared → Prop} {E : Value → Shared → Prop} {s : Shared} (hh : X.A.handled = none) (I : Inv X pins σ H s) (hq : SqL X.K H l (ns.map V.int)) (hne : ns ≠ []) (hf : s.heap.get? f = some fo) (f0 : H f = none) (fF : f ∉ frs X.stack) (hk : KeyOk X pins σ H f fo ns kf)
    (fin : ∀ (m : Int) (t : Tok) (s2 : Shared), m ∈ ns → (∀ n ∈ ns, kf m ≤ kf n) → Inv X pins σ H s2 → Q (.int m t) s2) : wpAny (model X.prog X.w) X.A (call (.builtin "min") [.ref l] [(Str.ofString "key", .ref f)]) Q E s := by
  have hname : (toString "min" ++ (toString ".loop") : String) = "min.loop" := by decide
  obtain ⟨us, hul, hls, hus⟩ := ints_at I hq
  obtain ⟨ol, hol, _⟩ := id hls
  have hlt : l < s.heap.objs.size := (Heap.lt_size hol)
  have hft : f < s.heap.objs.size := Heap.lt_size hf
  have hpos : 0 < ns.length := List.length_pos_iff.mpr hne
  refine kmk_tree PySem.F.kind_min PySem.F.plain_min (PySem.F.entry_min) (kmk_min_key _ _) ?_
  show wpAny _ X.A.in1 (Builtin.Builtins.bindParams "min" ["key", "default"] 0 ⟨[], [(Str.ofString "key", Value.ref f)]⟩ >>= _) _ _ s
  refine wpAny_bind (wpAny_of_eq (show Builtin.Builtins.bindParams "min" ["key", "default"] 0 ⟨[], [(Str.ofString "key", Value.ref f)]⟩ = pure [some (.ref f), none] from rfl) ?_)
  refine wpAny_bind (wpAny_pure ?_)
  refine wpAny_bind (wpAny_pyIter_list hls ?_)
  refine wpAny_bind (wpAny_newList ?_ <| Nat.zero_le _)
  rw [hname]
  refine wpAny_pure ⟨plainId_quiet (PySem.F.plain_min_loop) _, ?_⟩
  have z1 : (s.heap.push { cls := .type "list_iterator", data := .fields #[.ref l, .int 0 0] }).objs.size = s.heap.objs.size + 1 := size_push' ..
  have gN : ((s.heap.push { cls := .type "list_iterator", data := .fields #[.ref l, .int 0 0] }).push (seqObj "list" #[] 0)).get? s.heap.objs.size = some { cls := .type "list_iterator", data := .fields #[.ref l, .int 0 0] } := Heap.get?_push_of_some _ (Heap.get?_push_size _ rfl)
  have gT : ((s.heap.push { cls := .type "list_iterator", data := .fields #[.ref l, .int 0 0] }).push (seqObj "list" #[] 0)).get? (s.heap.push { cls := .type "list_iterator", data := .fields #[.ref l, .int 0 0] }).objs.size = some (seqObj "list" #[] 0) := Heap.get?_push_size _ rfl
  have kp0 : ∀ b o, s.heap.get? b = some o → ((s.heap.push { cls := .type "list_iterator", data := .fields #[.ref l, .int 0 0] }).push (seqObj "list" #[] 0)).get? b = some o := fun b o e => Heap.get?_push_of_some _ (Heap.get?_push_of_some _ e)
  have hTge : s.heap.objs.size ≤ (s.heap.push { cls := .type "list_iterator", data := .fields #[.ref l, .int 0 0] }).objs.size := by rw [z1]; exact Nat.le_succ _
  have hTN : (s.heap.push { cls := .type "list_iterator", data := .fields #[.ref l, .int 0 0] }).objs.size ≠ s.heap.objs.size := by rw [z1]; exact Nat.ne_of_gt (Nat.lt_succ_self _)
  have M : MinAt X pins σ H l f s.heap.objs.size (s.heap.push { cls := .type "list_iterator", data := .fields #[.ref l, .int 0 0] }).objs.size fo := ⟨hh, I.fpOk (Nat.le_refl _) (I.hok.fresh (Nat.le_refl _)), I.fpOk hTge (I.hok.fresh hTge), Nat.ne_of_lt hlt, hTN, Nat.ne_of_lt hft, Nat.ne_of_lt (Nat.lt_of_lt_of_le hft hTge), f0, fF⟩
  have I1 : Inv X pins σ H { s with heap := (s.heap.push { cls := .type "list_iterator", data := .fields #[.ref l, .int 0 0] }).push (seqObj "list" #[] 0) } := I.kept (t' := s.toks) kp0
  have hls1 : ((s.heap.push { cls := .type "list_iterator", data := .fields #[.ref l, .int 0 0] }).push (seqObj "list" #[] 0)).IsList l us.toArray := hls.at fun o e => kp0 _ _ e
  have hf1 := kp0 _ _ hf
  generalize (s.heap.push { cls := .type "list_iterator", data := .fields #[.ref l, .int 0 0] }).objs.size = T at M gT
  generalize (s.heap.push { cls := .type "list_iterator", data := .fields #[.ref l, .int 0 0] }).push (seqObj "list" #[] 0) = h1 at gN gT I1 hls1 hf1
  generalize s.heap.objs.size = N at M gN
  have W := Walks.list (prog := X.prog) (w := X.w) (A := X.A.in1) hh N l M.lN us.toArray
  obtain ⟨nN, nT⟩ := M.nF I
  refine codeAny_builtin PySem.F.entry_min_loop ?_
  rw [Around.under_plainId (PySem.F.plain_min_loop) _]
  show wpAny _ X.A.in1 (seqItems? (.ref T) >>= _) _ _ _
  refine wpAny_bind (wpAny_seqItems gT rfl ?_)
  show wpAny _ X.A.in1 (tryCatch (pyNext (.ref N)) _ >>= _) _ _ _
  refine wpAny_bind (wpAny_tryCatch (W.item 0 _ _ _ (by rw [List.size_toArray]; omega) ⟨⟨_, gN, rfl, rfl⟩, hls1⟩ fun v h2 tk2 hP st2 kp => ?_))
  obtain ⟨n, tn, hn, ev⟩ := hus 0 v (by simpa using hP)
  subst ev
  have T2 := kp T _ (by simpa using M.TN) gT
  have f2 := kp f _ (by simpa using M.fN) hf1
  obtain ⟨oN, hoN, hcN, hdN⟩ := id st2.1
  have I2 : Inv X pins σ H { s with heap := h2, toks := tk2 } := Inv.turnedL (s := { s with heap := h1 }) (t' := tk2) (h' := h2) I1 (ch := [N]) kp fun b hb => by rw [List.mem_singleton.mp hb]; exact M.okN
  show wpAny _ X.A.in1 (tryCatch (holding [Value.int n tn] (call (.ref f) [Value.int n tn])) _ >>= _) _ _ _
  refine wpAny_bind (wpAny_tryCatch (wpAny_holding (wpAny_mono (hk n (List.mem_of_getElem? hn) tn _ I2 f2) (fun u s3 he => ?_) fun _ _ hF => hF.elim)))
  obtain ⟨⟨t3, rfl⟩, I3, kp3⟩ := he
  have T3 := kp3 T _ T2 M.okT.1 nT
  have f3 := kp3 f _ f2 M.f0 M.fF
  have N3 := kp3 N _ hoN M.okN.1 nN
  have sb := Heap.SameBut.update s3.heap T (Obj.mapSeq fun _ => #[Value.int n tn, .int (kf n) t3])
  obtain ⟨c2, hc2⟩ : ∃ c2, (s3.heap.update T (Obj.mapSeq fun _ => #[Value.int n tn, .int (kf n) t3])).get? T = some (seqObj "list" #[Value.int n tn, .int (kf n) t3] c2) := ⟨_, get?_update_seq T3 fun _ => #[Value.int n tn, .int (kf n) t3]⟩
  show wpAny _ X.A.in1 (updateSeq T (fun _ => #[Value.int n tn, .int (kf n) t3]) >>= _) _ _ _
  refine wpAny_bind (wpAny_updateSeq T3 rfl ?_)
  rw [hname]
  refine wpAny_pure ⟨plainId_quiet (PySem.F.plain_min_loop) _, min_turns M hq hk fin _ 1 _ n tn t3 c2 rfl (by omega) (I3.turnedL (t' := s3.toks) (ch := [T]) (fun b o hb e => (sb.2 b (by simpa using hb)).trans e) fun b hb => by rw [List.mem_singleton.mp hb]; exact M.okT) ((sb.2 f M.fT).trans f3) ⟨oN, (sb.2 N M.TN.symm).trans N3, hcN, hdN⟩ hc2 (List.mem_of_getElem? hn) fun i hi n' hn' => ?_⟩
  have e : i = 0 := by omega
  subst e
  rw [hn] at hn'
  cases hn'
  exact Int.le_refl _
end
end KP
set_option Elab.async false
set_option linter.all false
set_option maxRecDepth 100000
set_option maxHeartbeats 1600000
/-! min(l, key=lambda x: ..) where the lambda captures names of the def. -/
namespace KP
open PySem PySem.Spec PyProof.Rows L2 Evl LamX NdefX
section
variable {X : Cx} {σ : L2.St} {H : Hp} {pins : List (Addr × Obj)} {s : Shared}
theorem off_stack (I : Inv X pins σ H s) {a : Addr} (ha : s.heap.objs.size ≤ a) : a ∉ frs X.stack := fun m => by
  rcases List.mem_cons.mp (I.stkSub _ m) with e | m
  · have lt := I.lt
    rw [← e] at lt
    exact absurd lt (Nat.not_lt.mpr ha)
  · exact I.nofs ha m
/-- the lambda's object: new, its code object new or told by the table -/
theorem lam_new {c P : Addr} {args : Arguments} {bd : Expr} {sc : Scope} {at_ : Pos} {E : Value → Shared → Prop} {Q : Value → Shared → Prop} (I : Inv X pins σ H s) (TB : TabB X.base X.mg c P) (hcode : X.env.code = .ref c) (hT : TabS H P (X.env.qual ++ "<lambda>")) (hdef : defaultsOf args X.env = ([], []))
    (hfree : ∀ y ∈ sc.names, y.2 = .free → ∃ c, X.env.cells.lookup y.1 = some c)
    (go : ∀ (f d : Addr) (pm ctv : Value) (H2 : Hp) (s2 : Shared), Inv X pins σ H2 s2 → ExtN H H2 → (∀ b, H2 b = none → H b = none) → TabS H2 P (X.env.qual ++ "<lambda>") → s2.heap.get? f = some (PySem.W.kla_obj "<lambda>" (X.env.qual ++ "<lambda>") args bd sc (cloFrom X.env.cells sc.names []) pm d ctv) → H2 f = none → f ∉ frs X.stack → H2 d = some (CodeO d (X.env.qual ++ "<lambda>")) → Q (.ref f) s2) :
    wpAny (model X.prog X.w) X.A (eval (.Lambda args bd sc at_) X.env) Q E s := by
  obtain ⟨rows, hP, hok, htell⟩ := hT
  have bP : s.heap.BuiltinsAt X.mg P := (TB.bm.keeps I.bk)
  have oP : s.heap.get? P = some { cls := .none, data := .fields rows } := I.hok P _ hP
  refine PySem.W.kla_eval hdef ?_
  cases hc : codeAmong at_ rows.toList with
  | some cv =>
    obtain ⟨d, ed, hd⟩ := htell at_ cv hc
    subst ed
    refine PySem.W.kla_makeFunctionHit (mg := X.mg) (c := c) (P := P) (ps := rows) (closure_ok hfree) I.ok.glob (I.mod.glob.keeps I.bk) hcode (TB.code.keeps I.bk) oP hok hc bP fun ctv h2 tk kp hsz => ?_
    exact go h2.objs.size d ((X.mg "__name__").getD .none) ctv H _ (I.kept fun b o e => Heap.get?_push_of_some _ (kp b o e)) (ExtN.refl H) (fun _ z => z) ⟨rows, hP, hok, htell⟩ (Heap.get?_push_size _ rfl) (I.hok.fresh hsz) (off_stack I hsz) hd
  | none =>
    refine PySem.W.kla_makeFunction (mg := X.mg) (c := c) (P := P) (ps := rows) (closure_ok hfree) I.ok.glob (I.mod.glob.keeps I.bk) hcode (TB.code.keeps I.bk) oP hok hc TB.gP bP fun d ctv h2 tk kp hge hlt hrec htab => ?_
    obtain ⟨d2, od, fs, td, ed, hod, hdd, hdv⟩ := hrec
    cases ed
    have hsz : s.heap.objs.size ≤ h2.objs.size := Nat.le_trans hge (Nat.le_of_lt hlt)
    have nd : H d = none := I.hok.fresh hge
    have I2 := inv_table (t' := tk) (more := #[rawInt at_.line, rawInt at_.col, .ref d]) (h' := h2.push (PySem.W.kla_obj "<lambda>" (X.env.qual ++ "<lambda>") args bd sc (cloFrom X.env.cells sc.names []) ((X.mg "__name__").getD .none) d ctv)) (q := X.env.qual ++ "<lambda>") I hP (fun b o hb e => Heap.get?_push_of_some _ (kp b o hb e)) (Heap.get?_push_of_some _ htab) hge ⟨od, fs, td, Heap.get?_push_of_some _ hod, hdd, hdv⟩
    have eN : ExtN H (upd (upd H P (.tbl (rows ++ #[rawInt at_.line, rawInt at_.col, .ref d]))) d (CodeO d (X.env.qual ++ "<lambda>"))) := fun b o e n => by
      have hne : b ≠ P := fun z => n rows (Option.some.inj (e.symm.trans (by rw [z]; exact hP)))
      rw [upd_ne (ne_of_none e nd), upd_ne hne]
      exact e
    have el : (rows ++ #[rawInt at_.line, rawInt at_.col, .ref d]).toList = rows.toList ++ [rawInt at_.line, rawInt at_.col, .ref d] := by simp
    refine go h2.objs.size d ((X.mg "__name__").getD .none) ctv _ _ I2 eN (fun b e => upd_none (upd_none e)) ⟨_, by rw [upd_ne (ne_of_none hP nd), upd_same], by rw [el]; exact PySem.TriplesOk_snoc _ _ _ _ hok, fun at2 cv h => ?_⟩ (Heap.get?_push_size _ rfl) ?_ (off_stack I hsz) upd_same
    · rw [el] at h
      rcases among_app _ hok h with z | z
      · obtain ⟨d0, e1, e2⟩ := htell at2 cv z
        exact ⟨d0, e1, eN _ _ e2 codeO_ne⟩
      · exact ⟨d, z, upd_same⟩
    · have nP : h2.objs.size ≠ P := Nat.ne_of_gt (Nat.lt_of_lt_of_le (Heap.lt_size oP) hsz)
      rw [upd_ne (Nat.ne_of_gt hlt), upd_ne nP]
      exact I.hok.fresh hsz
/-- a call of the lambda -/
theorem lam_call {N fr : List Str} {js : List Nat} {pa : Str} {k : Nat} {args : Arguments} {bd : Expr} {sc : Scope} {f d : Addr} {pm ctv : Value} {tb : TE} {n z : Int} {t : Tok} (hr : Room (k + 2) X.A) (hh : X.A.handled = none) (Sc : NScope N [pa] fr sc) (hfree : ∀ y ∈ sc.names, y.2 = .free → X.env.scope.names.lookup y.1 = some .cell ∨ X.env.scope.names.lookup y.1 = some .free)
    (hfr : ∀ y ∈ fr, (y, NameKind.free) ∈ sc.names) (hjs : js.map (fun j => X.N[j]?) = fr.map some) (hbind : ∀ (q : Str) (cl : List (Str × Addr)) (pm cv ctv u : Value), bindArgs (PySem.W.kla_fn "<lambda>" q args bd sc cl pm cv ctv) ⟨[u], []⟩ = pure [(pa, u)])
    (hbody : ∀ (A : Around) (outer : List Env) (s : Shared) (H : Hp) (F : NF) (f : Addr), F.scope = sc → Room k (A.deeper (envF F f s.heap.objs.size)) → PE (ncx CX0 X.prog X.w X.K X.mg X.base N F f A outer s H E0) bd tb)
    (I : Inv X pins σ H s) (hf : s.heap.get? f = some (PySem.W.kla_obj "<lambda>" (X.env.qual ++ "<lambda>") args bd sc (cloFrom X.env.cells sc.names []) pm d ctv)) (hd : H d = some (CodeO d (X.env.qual ++ "<lambda>")))
    (ht : ∀ Q : VK, Q (.int z) H → tb (startF N [.int n] (js.map (slotAt σ))) H Q) : wpAny (model X.prog X.w) X.A.in1 (call (.ref f) [.int n t]) (KeyEnd X pins σ H s z) (fun _ _ => False) s := by
  have hr1 : Room (k + 1) X.A.in1 := hr.in1
  have e0 := I.env0.in1
  have Cl := cells_of I (Caps.made (X := X) I.ok hfree hfr hjs)
  have rc : codeAny (model X.prog X.w) X.A.in1 (.call (.ref f) ⟨[.int n t], []⟩) (CR CX0 X.stack X.prog X.w H s (fun v H2 => v = .int z ∧ H2 = H) E0) s := by
    obtain ⟨c2, oc, fs, t2, ed, hoc, hdc, hvc⟩ := codeO_at I.hok hd
    cases ed
    refine PySem.W.kla_callFunE hr1.depth hf rfl Sc.co Sc.gen rfl ⟨d, oc, fs, t2, rfl, hoc, hdc, hvc⟩ ?_
    rw [hbind]
    refine wpAny_pure (wpAny_newFunctionEnv Sc.nocell (fun y hy => ?_) (fun h2 hns hsb => ⟨I.nolimit.fresh _ hsb, ?_⟩) Sc.kind)
    · have e := List.mem_singleton.mp hy
      rw [e]
      exact Sc.par pa (List.mem_singleton.mpr rfl)
    have kp : ∀ b o, s.heap.get? b = some o → h2.get? b = some o := fun b o e => hsb.extBut b o (Nat.ne_of_lt (Heap.lt_size e)) (Heap.get?_push_of_some _ e)
    show codeAny _ _ (.expr bd (envF ⟨"<lambda>", X.env.qual ++ "<lambda>", args, [], sc, cloFrom X.env.cells sc.names [], d⟩ f s.heap.objs.size)) _ _
    have J : Inv (ncx CX0 X.prog X.w X.K X.mg X.base N ⟨"<lambda>", X.env.qual ++ "<lambda>", args, [], sc, cloFrom X.env.cells sc.names [], d⟩ f X.A.in1 X.stack s H E0) [] (startF N [.int n] (js.map (slotAt σ))) H { s with heap := h2, toks := s.toks + ([(pa, Value.int n t)] : List (Str × Value)).length } :=
      inv_startN (ps := [pa]) (us := [.int n t]) Sc hh e0 rfl (.cons ⟨t, rfl⟩ .nil) Cl hns kp
    refine PySem.W.kla_codeExpr (wpAny_mono ((hbody X.A.in1 X.stack s H _ f rfl (hr1.deeper _)).run [] _ _ H (fun v H2 => v = .int z ∧ H2 = H) J (ht _ ⟨rfl, rfl⟩)) (fun u s2 hq => ?_) fun e s2 hq => hq)
    obtain ⟨v, H2, J2, rv, q⟩ := hq
    exact ⟨v, H2, J2.os, J2.bare, J2.base, J2.hok, rv, q⟩
  refine wpAny_call (codeAny_mono rc (fun r s2 hq => ?_))
  cases r with
  | error e => exact (show False from hq).elim
  | ok fl =>
    cases fl with
    | next => exact False.elim hq
    | brk => exact False.elim hq
    | cont => exact False.elim hq
    | ret u =>
      obtain ⟨v, H2, os, bare, un, hok, rv, ev, eH⟩ := hq
      subst ev eH
      refine ⟨rv, ?_, fun b o hb h0 hn => un.keep b o hb h0 hn (by simp)⟩
      have := I.call' os un hok bare (fun b hb => absurd hb (by simp))
      exact this
end
/-- min(e, key=lambda ..): the least by what the lambda tells -/
def tMinLam (K : PySem.W.Frag) (P : Addr) (q : Str) (N : List Str) (js : List Nat) (ta tb : TE) : TE := fun σ H Q => ta σ H fun v H1 => ∃ (l : Addr) (ns : List Int) (kf : Int → Int), v = .ref l ∧ SqL K H1 l (ns.map V.int) ∧ ns ≠ [] ∧ TabS H1 P q ∧
  ∀ H2, ExtN H1 H2 → (∀ b, H2 b = none → H1 b = none) → TabS H2 P q → SqL K H2 l (ns.map V.int) ∧ (∀ n ∈ ns, ∀ Q2 : VK, Q2 (.int (kf n)) H2 → tb (startF N [.int n] (js.map (slotAt σ))) H2 Q2) ∧ ∀ m ∈ ns, (∀ n ∈ ns, kf m ≤ kf n) → Q (.int m) H2
theorem pe_minLam {X : Cx} {e : Expr} {ta tb : TE} {args : Arguments} {bd : Expr} {sc : Scope} {lpos p pos kpos : Pos} {c P : Addr} {N fr : List Str} {js : List Nat} {pa : Str} {k : Nat} (hc : X.calm = true) (hg : Gl X "min") (hm : X.mg "min" = none) (he : PE X e ta) (TB : TabB X.base X.mg c P) (hcode : X.env.code = .ref c) (hr : Room (k + 2) X.A) (Sc : NScope N [pa] fr sc)
    (hfree : ∀ y ∈ sc.names, y.2 = .free → X.env.scope.names.lookup y.1 = some .cell ∨ X.env.scope.names.lookup y.1 = some .free) (hfr : ∀ y ∈ fr, (y, NameKind.free) ∈ sc.names) (hjs : js.map (fun j => X.N[j]?) = fr.map some) (hdef : defaultsOf args X.env = ([], []))
    (hbind : ∀ (q : Str) (cl : List (Str × Addr)) (pm cv ctv u : Value), bindArgs (PySem.W.kla_fn "<lambda>" q args bd sc cl pm cv ctv) ⟨[u], []⟩ = pure [(pa, u)])
    (hbody : ∀ (A : Around) (outer : List Env) (s : Shared) (H : Hp) (F : NF) (f : Addr), F.scope = sc → Room k (A.deeper (envF F f s.heap.objs.size)) → PE (ncx CX0 X.prog X.w X.K X.mg X.base N F f A outer s H E0) bd tb)
    (h1 : backTo pos (starEach [e] X.env) = (false, eval e X.env) :: backTo pos (starEach [] X.env) := by rfl) (h2 : (backTo pos (starEach [e] X.env)).any (·.1) = false := by rfl) :
    PE X (.Call (.Name "min" p) [e] [⟨some "key", .Lambda args bd sc lpos, kpos⟩] pos) (tMinLam X.K P (X.env.qual ++ "<lambda>") N js ta tb) := by
  refine ⟨fun pins s σ H Q I h => ?_⟩
  refine wpAny_Call_Name_kw (ld_blt I hg hm PyProof.Rows.boot_min ?_)
  refine PyProof.Rows.callWith_kw ?_ h1 h2 (by rfl) (by rfl)
  rw [h1]
  show wpAny _ _ (spliced ((false, eval e X.env) :: (backTo pos (starEach [] X.env)))) _ _ s
  refine Calls.spliced_cons (thn (he.run pins s σ H _ I h) fun u s1 ⟨v, H1, I1, r1, q1⟩ => Calls.spliced_nil ?_)
  obtain ⟨l, ns, kf, rfl, hq, hne, hT, go⟩ := q1
  cases r1
  show wpAny _ _ (evalAll ((do let v ← eval (.Lambda args bd sc lpos) X.env; standAt pos; pure v) :: [])) _ _ s1
  have hfc : ∀ y ∈ sc.names, y.2 = .free → ∃ c, X.env.cells.lookup y.1 = some c := fun y hy ey => (hfree y hy ey).elim (fun z => I1.ok.has _ (.inl z)) fun z => I1.ok.has _ (.inr z)
  refine wpAny_evalAll_cons (wpAny_bind (lam_new I1 TB hcode hT hdef hfc fun f d pm ctv H2 s2 I2 eN bk T2 hf hf0 hfF hd => ?_))
  refine wpAny_bind (wpAny_standAt (wpAny_pure (wpAny_evalAll_nil ?_)))
  obtain ⟨hq2, hb2, fin⟩ := go H2 eN bk T2
  refine min_key (kf := kf) (I2.ok.hd hc) I2 hq2 hne hf hf0 hfF (fun n hn t s3 I3 hf3 => lam_call hr (I2.ok.hd hc) Sc hfree hfr hjs hbind hbody I3 hf3 hd (hb2 n hn)) fun m t s3 hm3 hle I3 => ?_
  exact ⟨.int m, H2, I3, ⟨t, rfl⟩, fin m hm3 hle⟩
end KP
set_option Elab.async false
set_option linter.all false
set_option maxRecDepth 100000
set_option maxHeartbeats 800000
/-! plans.py: dicts of numbers; the cheapest that waits; the ends. -/
namespace KP
open PySem PySem.Spec PyProof.Rows L2 Evl LamX NdefX
abbrev nK (s : Nat) : Key := Sum.inl (s : Int)
/-- a dict that tells R, its keys below N -/
structure DI (kvs : List (Key × V)) (R : Nat → Option Nat) (N : Nat) : Prop where
  val : ∀ s : Nat, valV kvs (nK s) = (R s).map fun c => V.int (c : Nat)
  ks : ∃ ss : List Nat, kvs.map Prod.fst = ss.map nK ∧ ss.Nodup ∧ ∀ s ∈ ss, s < N
theorem nK_inj {a b : Nat} (h : nK a = nK b) : a = b := by
  have := Sum.inl.inj h
  omega
section
variable {kvs : List (Key × V)} {R : Nat → Option Nat} {N : Nat}
theorem DI.nil : DI [] (fun _ => none) N := ⟨fun _ => rfl, [], rfl, List.nodup_nil, fun _ m => (nomatch m)⟩
theorem DI.len (D : DI kvs R N) : kvs.length ≤ N := by
  obtain ⟨ss, e, nd, lt⟩ := D.ks
  have := congrArg List.length e
  rw [List.length_map, List.length_map] at this
  rw [this]
  exact nodup_bound N ss nd lt
theorem DI.none_of (D : DI kvs R N) {s : Nat} (h : R s = none) : valV kvs (nK s) = none := by
  rw [D.val, h] <;> rfl
theorem DI.some_of (D : DI kvs R N) {s c : Nat} (h : R s = some c) : valV kvs (nK s) = some (.int (c : Nat)) := by
  rw [D.val, h] <;> rfl
theorem DI.lt (D : DI kvs R N) {s c : Nat} (h : R s = some c) : s < N := by
  obtain ⟨ss, e, nd, lt⟩ := D.ks
  have m := valV_in (D.some_of h)
  have m2 : nK s ∈ kvs.map Prod.fst := m
  rw [e] at m2
  obtain ⟨u, hu, eu⟩ := List.mem_map.mp m2
  rw [← nK_inj eu]
  exact lt u hu
theorem DI.mem (D : DI kvs R N) {ss : List Nat} (e : kvs.map Prod.fst = ss.map nK) {s : Nat} : s ∈ ss ↔ ∃ c, R s = some c := by
  constructor
  · intro h
    have m : nK s ∈ kvs.map Prod.fst := by
      rw [e]
      exact List.mem_map.mpr ⟨s, h, rfl⟩
    cases hR : R s with
    | some c => exact ⟨c, rfl⟩
    | none => exact absurd m (valV_not (D.none_of hR))
  · rintro ⟨c, h⟩
    have m : nK s ∈ kvs.map Prod.fst := valV_in (D.some_of h)
    rw [e] at m
    obtain ⟨u, hu, eu⟩ := List.mem_map.mp m
    rw [← nK_inj eu]
    exact hu
theorem DI.empty (D : DI kvs R N) : kvs.length = 0 ↔ ∀ s, R s = none := by
  obtain ⟨ss, e, nd, lt⟩ := D.ks
  have hl := congrArg List.length e
  rw [List.length_map, List.length_map] at hl
  constructor
  · intro h s
    cases hR : R s with
    | none => rfl
    | some c =>
      have m := (D.mem e).mpr ⟨c, hR⟩
      have : ss = [] := List.length_eq_zero_iff.mp (by omega)
      rw [this] at m
      cases m
  · intro h
    cases ss with
    | nil => simpa using hl
    | cons a r =>
      obtain ⟨c, hc⟩ := (D.mem e).mp (List.mem_cons_self ..)
      rw [h a] at hc
      cases hc
theorem putK_keys (kvs : List (Key × V)) (k : Key) (v : V) : (putK kvs k v).map Prod.fst = if valV kvs k = none then kvs.map Prod.fst ++ [k] else kvs.map Prod.fst := by
  cases hv : valV kvs k with
  | none =>
    rw [putK_new v hv, if_pos rfl, List.map_append] <;> rfl
  | some u =>
    rw [if_neg (fun z => nomatch z)]
    unfold putK
    rw [if_pos (by rw [valV_any, hv]; rfl), List.map_map]
    refine List.map_congr_left fun p _ => ?_
    show (if p.1 = k then (p.1, v) else p).1 = p.1
    split <;> rfl
theorem DI.put (D : DI kvs R N) {s c : Nat} (hs : s < N) : DI (putK kvs (nK s) (.int (c : Nat))) (set1 R s (some c)) N := by
  obtain ⟨ss, e, nd, lt⟩ := D.ks
  refine ⟨fun u => ?_, ?_⟩
  · rw [valV_put]
    by_cases h : u = s
    · rw [h, if_pos rfl, set1_same] <;> rfl
    · rw [if_neg (fun z => h (nK_inj z)), set1_ne h]
      exact D.val u
  · rw [putK_keys]
    cases hR : R s with
    | none =>
      rw [if_pos (D.none_of hR), e]
      have hn : s ∉ ss := fun m => by
        obtain ⟨c, hc⟩ := (D.mem e).mp m
        rw [hR] at hc
        cases hc
      refine ⟨ss ++ [s], by rw [List.map_append] <;> rfl, nodup_snoc nd hn, fun u hu => ?_⟩
      rcases mem_snoc hu with m | m
      · exact lt u m
      · rw [m]
        exact hs
    | some c0 =>
      rw [if_neg (by rw [D.some_of hR]; exact fun z => nomatch z)]
      exact ⟨ss, e, nd, lt⟩
theorem DI.put_len (D : DI kvs R N) {s c : Nat} (h : R s = none) : (putK kvs (nK s) (.int (c : Nat))).length = kvs.length + 1 := by
  rw [putK_new _ (D.none_of h), List.length_append] <;> rfl
theorem valV_drop (kvs : List (Key × V)) (k j : Key) : valV (dropK kvs k) j = if j = k then none else valV kvs j := by
  induction kvs with
  | nil =>
    show (none : Option V) = _
    split <;> rfl
  | cons p r ih =>
    by_cases e : p.1 = k
    · rw [dropK_pos e, ih]
      by_cases ej : j = k
      · rw [if_pos ej, if_pos ej]
      · rw [if_neg ej, if_neg ej, valV_neg (fun z => ej (z.symm.trans e))]
    · rw [dropK_neg e]
      by_cases ej : p.1 = j
      · rw [valV_pos ej, if_neg (fun z => e (ej.trans z)), valV_pos ej]
      · rw [valV_neg ej, ih, valV_neg ej]
theorem DI.drop (D : DI kvs R N) {s : Nat} : DI (dropK kvs (nK s)) (set1 R s none) N := by
  obtain ⟨ss, e, nd, lt⟩ := D.ks
  refine ⟨fun u => ?_, ss.filter fun u => decide (u ≠ s), ?_, nd.filter _, fun u hu => lt u (List.mem_filter.mp hu).1⟩
  · rw [valV_drop]
    by_cases h : u = s
    · rw [h, if_pos rfl, set1_same] <;> rfl
    · rw [if_neg (fun z => h (nK_inj z)), set1_ne h]
      exact D.val u
  · have h1 : (dropK kvs (nK s)).map Prod.fst = (kvs.map Prod.fst).filter fun k => decide (k ≠ nK s) := by
      unfold dropK
      rw [List.filter_map] <;> rfl
    rw [h1, e, List.filter_map]
    congr 1
    refine List.filter_congr fun u _ => ?_
    show decide (nK u ≠ nK s) = decide (u ≠ s)
    rw [decide_eq_decide]
    exact ⟨fun h z => h (by rw [z]), fun h z => h (nK_inj z)⟩
end
/-! ### all but tables -/
def bare (H : Hp) : Hp := fun b => match H b with
  | some (.tbl _) => none
  | o => o
theorem bare_of {H : Hp} {b : Addr} {o : HO} (h : H b = some o) (n : ∀ ps, o ≠ .tbl ps) : bare H b = some o := by
  unfold bare
  rw [h]
  cases o with
  | tbl ps => exact absurd rfl (n ps)
  | _ => rfl
theorem bare_sub (H : Hp) : Ex (bare H) H := fun b o h => by
  unfold bare at h
  split at h
  · cases h
  · exact h
theorem ext_bare {H H2 : Hp} (e : ExtN H H2) : Ex (bare H) H2 := fun b o h => by
  refine e b o (bare_sub H b o h) fun ps z => ?_
  rw [z] at h
  have := bare_sub H b _ h
  unfold bare at h
  rw [this] at h
  cases h
theorem bare_ext {H H2 : Hp} (e : Ex (bare H) H2) : ExtN H H2 := fun b o h n => e b o (bare_of h n)
theorem ext_of {H H2 : Hp} (e : Ex H H2) : ExtN H H2 := fun b o h _ => e b o h
theorem bare_mono {H H2 : Hp} (e : Ex H H2) : Ex (bare H) (bare H2) := fun b o h => by
  have h1 := e _ _ (bare_sub H b o h)
  refine bare_of h1 fun ps z => ?_
  rw [z] at h
  have := bare_sub H b _ h
  unfold bare at h
  rw [this] at h
  cases h
/-- the lambda's name -/
abbrev qLam : Str := ("cheapest_waiting" ++ ".<locals>.") ++ "<lambda>"
/-- behind a call that may make the lambda -/
structure Past (P : Addr) (H H2 : Hp) : Prop where
  ext : ExtN H H2
  back : ∀ b, H2 b = none → H b = none
  tab : TabS H2 P qLam
theorem Past.same {P : Addr} {H H2 H3 : Hp} (h : Past P H H2) (e : Ex H2 H3) : Past P H H3 := ⟨fun b o hb n => e _ _ (h.ext b o hb n), fun b hb => h.back b (fresh_back e hb), h.tab.ext e⟩
theorem Past.trans {P : Addr} {H H2 H3 : Hp} (h : Past P H H2) (k : Past P H2 H3) : Past P H H3 := ⟨h.ext.trans k.ext, fun b hb => h.back b (k.back b hb), k.tab⟩
theorem Past.of {P : Addr} {H H2 : Hp} (e : Ex H H2) (t : TabS H P qLam) : Past P H H2 := ⟨ext_of e, fun b hb => fresh_back e hb, t.ext e⟩
theorem Past.pre {P : Addr} {H H1 H2 : Hp} (e : Ex H H1) (h : Past P H1 H2) : Past P H H2 := ⟨(ext_of e).trans h.ext, fun b hb => fresh_back e (h.back b hb), h.tab⟩
section
variable {K : PySem.W.Frag} {mg : Str → Option Value} {Pr : Program} {w : World} {base : Heap} {CT CA CD P : Addr}
/-! ### cheapest_waiting -/
abbrev s_cheapest_waiting : Stmt := top 70
theorem sc_cheapest_waiting : FnScope ["waiting"] ["waiting"] (defScope s_cheapest_waiting) := ⟨rfl, rfl, rfl, by decide +kernel, rfl, by decide +kernel, by decide +kernel⟩
def sp_waiting (P : Addr) : Sp := fun vs H Q _ => ∃ (d : Addr) (kvs : List (Key × V)) (W : Nat → Option Nat) (N : Nat), vs = [.ref d] ∧ H d = some (.dK kvs) ∧ DI kvs W N ∧ N ≤ 256 ∧ kvs.length ≠ 0 ∧ TabS H P qLam ∧
  ∀ u c H2, W u = some c → (∀ v c2, W v = some c2 → c ≤ c2) → Past P H H2 → Q (.int (u : Nat)) H2
theorem has_cheapest_waiting {f c : Addr} {oc kVd doc pm ct : Value} {od an : Option Addr} {osl : Array (Option Value)} (lk : K.lookup f = some ⟨oc, od, .func (PySem.W.fnOf "cheapest_waiting" "cheapest_waiting" (defArgs s_cheapest_waiting) (defBody s_cheapest_waiting) (defScope s_cheapest_waiting) .none kVd doc pm an (.ref c) ct), osl⟩) (hcd : PySem.W.codeIn K (.ref c) "cheapest_waiting" = true) (hkp : PySem.W.keepIn K (.ref f) = true)
    (O : Own mg) (g : mg "cheapest_waiting" = some (.ref f)) (TB : TabB base mg c P) : Has Pr w K mg base 3 "cheapest_waiting" ["waiting"] (sp_waiting P) := by
  have F := fun_mk lk hcd hkp
  refine ⟨f, _, fn_of lk hcd sc_cheapest_waiting (fun vs H Q E h => ?_) (fun A outer s H vs Q E hr h => ?_), g, hkp, F.binds fun _ _ _ _ _ _ us hl => match us, hl with | [_], _ => rfl⟩
  · obtain ⟨_, _, _, _, rfl, _⟩ := h
    rfl
  · obtain ⟨d, kvs, W, N, rfl, hd, D, hN, hne, hT, q⟩ := h
    suffices hs : ∃ t, PSs (cxOf CX0 Pr w K mg base ["waiting"] "cheapest_waiting" (defScope s_cheapest_waiting) f (.ref c) A outer s H E).nox (defBody s_cheapest_waiting) t ∧ t { nx := fun _ H' => Q .non H', rt := Q } (start ["waiting"] [.ref d]) H by
      obtain ⟨t, h1, h2⟩ := hs
      exact ⟨t, h1.nox, h2⟩
    refine ⟨_, (pss_one (ps_ret (pe_minLam (k := 0) (N := ["so", "waiting"]) (fr := ["waiting"]) (js := [0]) (pa := "so") (tb := tDGet (tVar 1) (tVar 0)) rfl rfl O.min (pe_callTy (call_list_dK rfl) (by rfl) O.list (by decide +kernel) (pa_cons (pv 0) pa_nil)) TB rfl hr (nscope_by (by decide +kernel)) (ndef_free (sc := defScope s_cheapest_waiting) (fr := ["waiting"]) (by decide +kernel)) (ndef_fr (sc := defScope s_cheapest_waiting) (by decide +kernel)) rfl rfl (fun _ _ _ _ _ _ => rfl) (fun A outer s H F f hF hr => ?_)))), ?_⟩
    · have v1 : Vis (ncx CX0 Pr w K mg base ["so", "waiting"] F f A outer s H E0).env.scope "waiting" := by
        show Vis F.scope "waiting"
        rw [hF]
        exact Or.inr (Or.inr rfl)
      have v0 : Vis (ncx CX0 Pr w K mg base ["so", "waiting"] F f A outer s H E0).env.scope "so" := by
        show Vis F.scope "so"
        rw [hF]
        exact Or.inl rfl
      exact pe_dget (hu_of hr) (pe_var (i := 1) rfl v1) (pe_var (i := 0) rfl v0) (fun _ _ => rfl)
    · obtain ⟨ss, ess, nd, lt⟩ := D.ks
      have hl : kvs.map (fun kv => kV kv.1) = (ss.map fun u : Nat => (u : Int)).map V.int := by
        rw [show (fun kv : Key × V => kV kv.1) = kV ∘ Prod.fst from rfl, ← List.map_map, ess, List.map_map, List.map_map] <;> rfl
      have hss : ss ≠ [] := fun e => by
        have := congrArg List.length ess
        rw [e, List.length_map] at this
        exact hne this
      refine ⟨_, rfl, d, kvs, rfl, hd, fun l hlN => ?_⟩
      have e1 : Ex H (upd H l (.lst (kvs.map fun kv => kV kv.1))) := Ex.new hlN
      refine ⟨l, ss.map fun u : Nat => (u : Int), fun n => ((W n.toNat).getD 0 : Nat), rfl, sq_of (by rw [upd_same, hl]), fun e => hss (List.map_eq_nil_iff.mp e), hT.ext e1, fun H2 eN bk T2 => ?_⟩
      have hd2 : H2 d = some (.dK kvs) := eN _ _ (e1 _ _ hd) fun _ z => (nomatch z)
      refine ⟨sq_of (eN _ _ (by rw [upd_same, hl]) fun _ z => (nomatch z)), fun n hn Q2 q2 => ?_, fun m hm hle => ?_⟩
      · obtain ⟨u, hu, rfl⟩ := List.mem_map.mp hn
        obtain ⟨cu, hcu⟩ := (D.mem ess).mp hu
        refine ⟨_, rfl, _, rfl, d, .int (cu : Nat), rfl, ?_, ?_⟩
        · have := DGet.k (H := H2) (a := d) (kvs := kvs) (k := nK u) hd2
          rw [D.some_of hcu] at this
          exact this
        · have q3 : Q2 (V.int (((W ((u : Int)).toNat).getD 0 : Nat) : Int)) H2 := q2
          rw [Int.toNat_natCast, hcu] at q3
          exact q3
      · obtain ⟨u, hu, rfl⟩ := List.mem_map.mp hm
        obtain ⟨cu, hcu⟩ := (D.mem ess).mp hu
        refine q u cu H2 hcu (fun v c2 hv => ?_) ⟨fun b o hb n => eN b o (e1 _ _ hb) n, fun b hb => fresh_back e1 (bk b hb), T2⟩
        have : (((W ((u : Int)).toNat).getD 0 : Nat) : Int) ≤ (((W ((v : Int)).toNat).getD 0 : Nat) : Int) := hle (v : Int) (List.mem_map.mpr ⟨v, (D.mem ess).mpr ⟨c2, hv⟩, rfl⟩)
        rw [Int.toNat_natCast, Int.toNat_natCast, hcu, hv] at this
        simpa using this
end
end KP
set_option Elab.async false
set_option linter.all false
set_option maxRecDepth 100000
set_option maxHeartbeats 800000
/-! plans.py: the ends, the steps. -/
namespace KP
open PySem PySem.Spec PyProof.Rows L2 Evl LamX NdefX
def endsTo (t : Pn.Task) (i s : Nat) : Option Nat := if s < i ∧ t.done s = true then some 0 else none
theorem endsTo_yes {t : Pn.Task} {i : Nat} (h : t.done i = true) : set1 (endsTo t i) i (some 0) = endsTo t (i + 1) := by
  funext s
  unfold set1 endsTo
  by_cases e : s = i
  · rw [if_pos e, if_pos ⟨by omega, by rw [e]; exact h⟩]
  · rw [if_neg e]
    by_cases h2 : s < i ∧ t.done s = true
    · rw [if_pos h2, if_pos ⟨by omega, h2.2⟩]
    · rw [if_neg h2, if_neg fun z => h2 ⟨by omega, z.2⟩]
theorem endsTo_no {t : Pn.Task} {i : Nat} (h : t.done i = false) : endsTo t i = endsTo t (i + 1) := by
  funext s
  unfold endsTo
  by_cases h2 : s < i ∧ t.done s = true
  · rw [if_pos h2, if_pos ⟨by omega, h2.2⟩]
  · rw [if_neg h2, if_neg fun z => h2 ⟨by
      have : s ≠ i := fun e => by
        rw [e, h] at z
        exact Bool.false_ne_true z.2
      omega, z.2⟩]
section
variable {K : PySem.W.Frag} {mg : Str → Option Value} {Pr : Program} {w : World} {base : Heap} {CT CA CD P : Addr}
theorem ev_nget {σ : L2.St} {F : Hp} {td ty : TE} {a : Addr} {s c : Nat} {kvs : List (Key × V)} {R : Nat → Option Nat} {N : Nat} (hd : Ev td σ F (.ref a)) (hy : Ev ty σ F (.int (s : Nat))) (h : F a = some (.dK kvs)) (D : DI kvs R N) (hs : R s = some c) : Ev (tDGet td ty) σ F (.int (c : Nat)) := fun H1 e Q q =>
  hd H1 e _ fun H2 e2 => hy H2 (e.trans e2) _ fun H3 e3 => ⟨a, .int (c : Nat), rfl, by
    have := DGet.k (H := H3) (a := a) (kvs := kvs) (k := nK s) (((e.trans e2).trans e3) _ _ h)
    rw [D.some_of hs] at this
    exact this, q H3 (e2.trans e3)⟩
theorem ev_nin {σ : L2.St} {F : Hp} {td ty : TE} {a : Addr} {s : Nat} {kvs : List (Key × V)} {R : Nat → Option Nat} {N : Nat} (hy : Ev ty σ F (.int (s : Nat))) (hd : Ev td σ F (.ref a)) (h : F a = some (.dK kvs)) (D : DI kvs R N) : Ev (tDIn ty td) σ F (.bl (R s).isSome) := fun H1 e Q q =>
  hy H1 e _ fun H2 e2 => hd H2 (e.trans e2) _ fun H3 e3 => ⟨a, _, rfl, DGet.k (H := H3) (a := a) (kvs := kvs) (k := nK s) (((e.trans e2).trans e3) _ _ h), by
    rw [D.val, Option.isSome_map]
    exact q H3 (e2.trans e3)⟩
theorem ev_nnotin {σ : L2.St} {F : Hp} {td ty : TE} {a : Addr} {s : Nat} {kvs : List (Key × V)} {R : Nat → Option Nat} {N : Nat} (hy : Ev ty σ F (.int (s : Nat))) (hd : Ev td σ F (.ref a)) (h : F a = some (.dK kvs)) (D : DI kvs R N) : Ev (tDNotIn ty td) σ F (.bl (!(R s).isSome)) := fun H1 e Q q =>
  hy H1 e _ fun H2 e2 => hd H2 (e.trans e2) _ fun H3 e3 => ⟨a, _, rfl, DGet.k (H := H3) (a := a) (kvs := kvs) (k := nK s) (((e.trans e2).trans e3) _ _ h), by
    rw [D.val, Option.isSome_map]
    exact q H3 (e2.trans e3)⟩
theorem cbl_of {σ : L2.St} {F H : Hp} {ta : TE} {r : List V → Hp → VK → Prop} {xs : List V} {Q : VK} (h : EvL ta σ F xs) (e : Ex F H) (k : ∀ p H1, H p = none → Ex H H1 → H1 p = some (.lst xs) → r [.ref p] H1 Q) : tCB r (tCons ta tNil) σ H Q := h H e _ k
/-! ### costs_at_the_end -/
abbrev s_costs_at_the_end : Stmt := top 69
theorem sc_costs_at_the_end : FnScope ["set_count", "wanted", "costs", "so"] ["set_count", "wanted"] (defScope s_costs_at_the_end) := ⟨rfl, rfl, rfl, by decide +kernel, rfl, by decide +kernel, by decide +kernel⟩
def sp_ends : Sp := fun vs H Q _ => ∃ t : Pn.Task, vs = [.int (2 ^ t.facts : Nat), .int (t.goal : Nat)] ∧ 2 ^ t.facts ≤ 256 ∧ ∀ d kvs H2, H d = none → Ex H H2 → H2 d = some (.dK kvs) → DI kvs (ends t) (2 ^ t.facts) → Q (.ref d) H2
theorem has_costs_at_the_end {f : Addr} {fd : FuncData} (F : Fun K "costs_at_the_end" "costs_at_the_end" s_costs_at_the_end f fd) (O : Own mg) (g : mg "costs_at_the_end" = some (.ref f)) (h_has_all : Has Pr w K mg base 1 "has_all" ["so", "facts"] sp_has_all) : Has Pr w K mg base 2 "costs_at_the_end" ["set_count", "wanted"] sp_ends := by
  refine ⟨f, fd, F.ok sc_costs_at_the_end (fun vs H Q E h => ?_) (fun cdv A outer s H vs Q E hr h => ?_), g, F.kp, F.binds fun _ _ _ _ _ _ us hl => match us, hl with | [_, _], _ => rfl⟩
  · obtain ⟨_, rfl, _⟩ := h
    rfl
  · obtain ⟨t, rfl, h256, q⟩ := h
    have hu := hu_of hr
    refine ⟨_, (pss_cons (ps_set (i := 2) sc_costs_at_the_end.nd rfl (Or.inl rfl) pe_dnewK)
      (pss_cons (ps_for PassesOwn.never rfl (pi_range1 (by rfl) O.range (pa_cons (pv 0) pa_nil)) (pg_name (i := 3) sc_costs_at_the_end.nd rfl (Or.inl rfl)) (pss_one (ps_if (pt_val (pe_own h_has_all (hr.mono (by decide)) rfl (pa_cons (pv 3) (pa_cons (pv 1) pa_nil)))) (pss_one (ps_dput hu (pv 2) (pv 3) pe_int rfl)) pss_nil)))
      (pss_one (ps_ret (pv 2))))), ?_⟩
    intro d hd
    show tSeq _ _ _ [some (.int (2 ^ t.facts : Nat)), some (.int (t.goal : Nat)), some (.ref d), none] _
    refine q_forR1 (n := (2 ^ t.facts : Nat)) (ea_cons (ev_var rfl) ea_nil) ⟨Int.natCast_nonneg _, Int.ofNat_le.mpr (Nat.le_trans h256 (by decide))⟩ (fun i σ H' => ∃ y kvs, σ = [some (.int (2 ^ t.facts : Nat)), some (.int (t.goal : Nat)), some (.ref d), y] ∧ Ex H H' ∧ H' d = some (.dK kvs) ∧ DI kvs (endsTo t i) (2 ^ t.facts)) ?_ ?_ ?_
    · intro H1 e1
      refine ⟨none, [], rfl, (Ex.new hd).trans e1, e1 _ _ upd_same, ?_⟩
      have e0 : endsTo t 0 = fun _ => none := by
        funext s
        unfold endsTo
        exact if_neg fun z => absurd z.1 (Nat.not_lt_zero _)
      rw [e0]
      exact DI.nil
    · rintro i σ' H' hi ⟨y, kvs, rfl, e1, hd1, D⟩
      have hi2 : i < 2 ^ t.facts := Int.ofNat_lt.mp hi
      show tIfS _ _ _ _ [some (.int (2 ^ t.facts : Nat)), some (.int (t.goal : Nat)), some (.ref d), some (.int (i : Nat))] _
      refine s_when (et_B (KP.ev_call (v := .bl (t.done i)) (ea_cons (ev_var rfl) (ea_cons (ev_var rfl) ea_nil)) fun H2 e2 Q2 q2 => ⟨i, t.goal, rfl, q2⟩)) (fun c H2 e2 => ?_) (fun c H2 e2 => ?_)
      · refine dput_of (F := H2) (kvs := kvs) (k := nK i) (v := .int (0 : Nat)) ev_c (ev_var rfl) (ev_var rfl) (Ex.refl H2) fun H3 e3 => ⟨(e2.trans e3) _ _ hd1, by have := D.len; omega, ?_⟩
        refine ⟨_, _, rfl, Ex.mut ((e1.trans e2).trans e3) hd, upd_same, ?_⟩
        rw [← endsTo_yes c]
        exact D.put hi2
      · refine ⟨_, kvs, rfl, e1.trans e2, e2 _ _ hd1, ?_⟩
        rw [← endsTo_no c]
        exact D
    · rintro σ' H' ⟨y, kvs, rfl, e1, hd1, D⟩
      refine s_ret (ev_var rfl) fun H2 e2 => q d kvs H2 hd (e1.trans e2) (e2 _ _ hd1) ?_
      have e : endsTo t ((2 ^ t.facts : Nat) : Int).toNat = ends t := by
        rw [Int.toNat_natCast] <;> rfl
      rw [e] at D
      exact D
/-! ### is_cheapest_step -/
def stepOn (R : Nat → Option Nat) (a : Pn.Act) (s c : Nat) : Bool := a.may s && match R (a.then_ s) with
  | some c2 => decide (a.cost + c2 = c)
  | none => false
abbrev s_is_cheapest_step : Stmt := top 67
theorem sc_is_cheapest_step : FnScope ["deed", "rest", "so", "behind"] ["deed", "rest", "so"] (defScope s_is_cheapest_step) := ⟨rfl, rfl, rfl, by decide +kernel, rfl, by decide +kernel, by decide +kernel⟩
def sp_step (CD : Addr) : Sp := fun vs H Q _ => ∃ (B : DeedA) (a : Pn.Act) (d : Addr) (kvs : List (Key × V)) (R : Nat → Option Nat) (N s c : Nat), vs = [.ref B.b, .ref d, .int (s : Nat)] ∧ DoAt CD H B a ∧ H d = some (.dK kvs) ∧ DI kvs R N ∧ R s = some c ∧ ∀ H2, Ex H H2 → Q (.bl (stepOn R a s c)) H2
theorem has_is_cheapest_step {f : Addr} {fd : FuncData} (F : Fun K "is_cheapest_step" "is_cheapest_step" s_is_cheapest_step f fd) (C : DCls K CD) (g : mg "is_cheapest_step" = some (.ref f)) (h_may_be_done : Has Pr w K mg base 2 "may_be_done" ["deed", "so"] (sp_may CD)) (h_so_behind : Has Pr w K mg base 1 "so_behind" ["deed", "so"] (sp_behind CD)) : Has Pr w K mg base 3 "is_cheapest_step" ["deed", "rest", "so"] (sp_step CD) := by
  refine ⟨f, fd, F.ok sc_is_cheapest_step (fun vs H Q E h => ?_) (fun cdv A outer s H vs Q E hr h => ?_), g, F.kp, F.binds fun _ _ _ _ _ _ us hl => match us, hl with | [_, _, _], _ => rfl⟩
  · obtain ⟨_, _, _, _, _, _, _, _, rfl, _⟩ := h
    rfl
  · obtain ⟨B, a, d, kvs, R, N, so, c, rfl, T, hd, D, hs, q⟩ := h
    have hu := hu_of hr
    refine ⟨_, (pss_cons (ps_if (pt_not (pt_val (pe_own h_may_be_done (hr.mono (by decide)) rfl (pa_cons (pv 0) (pa_cons (pv 2) pa_nil))))) (pss_one (ps_ret pe_bl)) pss_nil)
      (pss_cons (ps_set (i := 3) sc_is_cheapest_step.nd rfl (Or.inl rfl) (pe_own h_so_behind (hr.mono (by decide)) rfl (pa_cons (pv 0) (pa_cons (pv 2) pa_nil))))
      (pss_one (ps_ret (pe_and (pe_cmp (pc_din hu (pv 3) (pv 1)) rfl) (pe_one (pe_cmpR op_eq (pe_op op_add (pe_fld (pv 0) (by rfl)) (pe_dget hu (pv 1) (pv 3) (fun _ _ => rfl))) (pe_dget hu (pv 1) (pv 2) (fun _ _ => rfl)) (nomark _)))))))), ?_⟩
    refine q_when (et_not (et_B (KP.ev_call (v := .bl (a.may so)) (ea_cons (ev_var rfl) (ea_cons (ev_var rfl) ea_nil)) fun H1 e1 Q1 q1 => ⟨B, a, so, rfl, e1 _ _ T, q1⟩))) (fun cm H1 e1 => ?_) (fun cm H1 e1 => ?_)
    · refine s_ret (v := .bl false) ev_c fun H2 e2 => ?_
      have := q H2 (e1.trans e2)
      have hm : a.may so = false := by rw [Bool.not_eq_true'] at cm; exact cm
      unfold stepOn at this
      rw [hm, Bool.false_and] at this
      exact this
    · have hm : a.may so = true := by rw [Bool.not_eq_false'] at cm; exact cm
      refine q_asg (v := .int (a.then_ so : Nat)) (KP.ev_call (ea_cons (ev_var rfl) (ea_cons (ev_var rfl) ea_nil)) fun H2 e2 Q2 q2 => ⟨B, a, so, rfl, (e1.trans e2) _ _ T, q2⟩) fun H2 e2 => ?_
      have e12 := e1.trans e2
      have T2 : DoAt CD H2 B a := e12 _ _ T
      have hd2 := e12 _ _ hd
      have hv : stepOn R a so c = ((R (a.then_ so)).isSome && match R (a.then_ so) with | some c2 => decide (a.cost + c2 = c) | none => false) := by
        unfold stepOn
        rw [hm, Bool.true_and]
        cases R (a.then_ so) <;> rfl
      refine s_ret (v := .bl (stepOn R a so c)) ?_ fun H3 e3 => q H3 (e12.trans e3)
      rw [hv]
      refine ev_andV (ev_nin (ev_var rfl) (ev_var rfl) hd2 D) fun hsome => ?_
      obtain ⟨c2, hc2⟩ := Option.isSome_iff_exists.mp hsome
      rw [hc2]
      refine ev_is (ev_op (ev_add (ev_dcost T2 C (ev_var rfl)) (ev_nget (ev_var rfl) (ev_var rfl) hd2 D hc2)) (ev_nget (ev_var rfl) (ev_var rfl) hd2 D hs) (rv_eq rfl)) ?_
      rw [int_eq]
      congr 1
      rw [decide_eq_decide]
      omega
/-! ### lowest_step -/
abbrev s_lowest_step : Stmt := top 66
theorem sc_lowest_step : FnScope ["deeds", "rest", "so", "number", "deed"] ["deeds", "rest", "so"] (defScope s_lowest_step) := ⟨rfl, rfl, rfl, by decide +kernel, rfl, by decide +kernel, by decide +kernel⟩
def sp_lowest_step (K : PySem.W.Frag) (CD : Addr) : Sp := fun vs H Q _ => ∃ (p d : Addr) (ds : List DeedA) (t : Pn.Task) (kvs : List (Key × V)) (R : Nat → Option Nat) (N s c k : Nat), vs = [.ref p, .ref d, .int (s : Nat)] ∧ SqL K H p (dRefs ds) ∧ P2 (DoAt CD H) ds t.acts ∧ t.acts.length ≤ 100 ∧ H d = some (.dK kvs) ∧ DI kvs R N ∧ R s = some c ∧
  k < t.acts.length ∧ stepOn R (t.act k) s c = true ∧ (∀ j, j < t.acts.length → stepOn R (t.act j) s c = true → k ≤ j) ∧ ∀ H2, Ex H H2 → Q (.int (k : Nat)) H2
theorem has_lowest_step {f : Addr} {fd : FuncData} (F : Fun K "lowest_step" "lowest_step" s_lowest_step f fd) (O : Own mg) (g : mg "lowest_step" = some (.ref f)) (h_is_cheapest_step : Has Pr w K mg base 3 "is_cheapest_step" ["deed", "rest", "so"] (sp_step CD)) : Has Pr w K mg base 4 "lowest_step" ["deeds", "rest", "so"] (sp_lowest_step K CD) := by
  refine ⟨f, fd, F.ok sc_lowest_step (fun vs H Q E h => ?_) (fun cdv A outer s H vs Q E hr h => ?_), g, F.kp, F.binds fun _ _ _ _ _ _ us hl => match us, hl with | [_, _, _], _ => rfl⟩
  · obtain ⟨_, _, _, _, _, _, _, _, _, _, rfl, _⟩ := h
    rfl
  · obtain ⟨p, d, ds, t, kvs, R, N, so, c, k, rfl, hp, hds, h100, hd, D, hs, hk, hon, hmin, q⟩ := h
    refine ⟨_, (pss_one (ps_ret (pe_callB (cr_min rfl) (by rfl) O.min (by decide +kernel) (pa_cons (pe_lc (own := [("number", 3), ("deed", 4)]) (g := gTup K 2 (gCons (gName 3) (gCons (gName 4) gNil))) (tt := tB (tCall (sp_step CD) [] E0 (tCons (tVar 4) (tCons (tVar 1) (tCons (tVar 2) tNil))))) rfl sc_lowest_step.nd (pi_enum (by rfl) O.enum (pa_cons (pv 0) pa_nil)) (blkOk_by (N := ["deeds", "rest", "so", "number", "deed"]) (sc := defScope s_lowest_step) (by decide +kernel)) (fun _ _ _ _ _ => (pg_tup rfl (pgs_cons (pg_name (i := 3) sc_lowest_step.nd rfl (Or.inl rfl)) (pgs_cons (pg_name (i := 4) sc_lowest_step.nd rfl (Or.inl rfl)) pgs_nil)))) (fun _ _ _ _ _ => (pts_one (pt_val (pe_own h_is_cheapest_step (hr.mono (by decide)) rfl (pa_cons (pv 4) (pa_cons (pv 1) (pa_cons (pv 2) pa_nil))))))) (fun _ _ _ _ _ => (pv 3))) pa_nil)))), ?_⟩
    have hlen := hds.length
    have hgo := goes_enum (K := K) (σ := start ["deeds", "rest", "so", "number", "deed"] [.ref p, .ref d, .int (so : Nat)]) (F := H) (ta := tVar 0) (ev_var rfl) hp
    rw [List.length_map] at hgo
    have hE : EvL (tLc (iEnum K (tCons (tVar 0) tNil)) (gTup K 2 (gCons (gName 3) (gCons (gName 4) gNil))) (tB (tCall (sp_step CD) [] E0 (tCons (tVar 4) (tCons (tVar 1) (tCons (tVar 2) tNil))))) (tVar 3) [3, 4]) (start ["deeds", "rest", "so", "number", "deed"] [.ref p, .ref d, .int (so : Nat)]) H (given ds.length (fun i => stepOn R (t.act i) so c) fun i => V.int (i : Nat)) := by
      refine el_it hgo.new (by omega) _ _ fun i v H1 H' hi e1 y Q' q' => ?_
      obtain ⟨M, u, o, rfl, hM, rfl, hu, ho⟩ := y
      have hu' : V.int (i : Nat) = u := Option.some.inj hu
      subst hu'
      have ho' : (dRefs ds)[i]? = some o := ho
      rw [List.getElem?_map, List.getElem?_eq_getElem hi] at ho'
      have eo : V.ref (ds[i]).b = o := Option.some.inj ho'
      subst eo
      obtain ⟨a, ha, hT⟩ := do_get hds hi
      refine g_pair (K := K) upd_same ?_
      refine q' _ _ (Ex.new hM) rfl (et_B (KP.ev_call (ea_cons (ev_var rfl) (ea_cons (ev_var rfl) (ea_cons (ev_var rfl) ea_nil))) fun H2 e2 Q2 q2 => ⟨ds[i], a, d, kvs, R, N, so, c, rfl, e2 _ _ hT, e2 _ _ hd, D, hs, by rw [act_at ha] at q2; exact q2⟩)) fun _ => ev_var rfl
    refine s_retQ (cbl_of hE (Ex.refl H) fun l H1 hl e1 h1 => ?_)
    have hns : given ds.length (fun i => stepOn R (t.act i) so c) (fun i => V.int (i : Nat)) = (((List.range ds.length).filter fun i => stepOn R (t.act i) so c).map fun i : Nat => (i : Int)).map V.int := by
      unfold given
      rw [List.map_map] <;> rfl
    rw [hns] at h1
    have hkm : k ∈ (List.range ds.length).filter fun i => stepOn R (t.act i) so c := List.mem_filter.mpr ⟨List.mem_range.mpr (by omega), hon⟩
    refine ⟨l, _, rfl, sq_of h1, ?_, fun m hm hle => ?_⟩
    · rw [List.length_map]
      exact List.length_pos_of_mem hkm
    · obtain ⟨j, hj, rfl⟩ := List.mem_map.mp hm
      obtain ⟨hj1, hj2⟩ := List.mem_filter.mp hj
      have h2 := hmin j (by have := List.mem_range.mp hj1; omega) hj2
      have h3 := hle (k : Int) (List.mem_map.mpr ⟨k, hkm, rfl⟩)
      have e : j = k := by omega
      rw [e]
      exact q H1 e1
end
end KP
set_option Elab.async false
set_option linter.all false
set_option maxRecDepth 100000
set_option maxHeartbeats 800000
/-! plans.py: the ways into each set. -/
namespace KP
open PySem PySem.Spec PyProof.Rows L2 Evl LamX NdefX
/-- a list of lists of pairs, all of them apart -/
structure WaysAt (H : Hp) (wl : Addr) (ls : List Addr) (tt : Nat → List Addr) (f : Nat → List (Nat × Nat)) (N : Nat) : Prop where
  lst : H wl = some (.lst (ls.map V.ref))
  len : ls.length = N
  nd : ls.Nodup
  apart : wl ∉ ls
  each : ∀ i a, ls[i]? = some a → H a = some (.lst ((tt i).map V.ref)) ∧ P2 (fun t (p : Nat × Nat) => H t = some (.tup [.int (p.1 : Nat), .int (p.2 : Nat)])) (tt i) (f i)
theorem WaysAt.mono {H H2 : Hp} {wl : Addr} {ls : List Addr} {tt : Nat → List Addr} {f : Nat → List (Nat × Nat)} {N : Nat} (e : Ex H H2) (h : WaysAt H wl ls tt f N) : WaysAt H2 wl ls tt f N := ⟨e _ _ h.lst, h.len, h.nd, h.apart, fun i a hi => ⟨e _ _ (h.each i a hi).1, (h.each i a hi).2.mono fun _ _ z => e _ _ z⟩⟩
theorem WaysAt.bare {H : Hp} {wl : Addr} {ls : List Addr} {tt : Nat → List Addr} {f : Nat → List (Nat × Nat)} {N : Nat} (h : WaysAt H wl ls tt f N) : WaysAt (KP.bare H) wl ls tt f N := ⟨bare_of h.lst fun _ z => (nomatch z), h.len, h.nd, h.apart, fun i a hi => ⟨bare_of (h.each i a hi).1 fun _ z => (nomatch z), (h.each i a hi).2.mono fun _ _ y => bare_of y fun _ z => HO.noConfusion z⟩⟩
theorem WaysAt.add {H : Hp} {wl a p : Addr} {ls : List Addr} {tt : Nat → List Addr} {f : Nat → List (Nat × Nat)} {N u s c : Nat} (h : WaysAt H wl ls tt f N) (hu : ls[u]? = some a) (hp : H p = some (.tup [.int (s : Nat), .int (c : Nat)])) :
    WaysAt (upd H a (.lst ((tt u).map V.ref ++ [.ref p]))) wl ls (fun i => if i = u then tt u ++ [p] else tt i) (fun i => if i = u then f u ++ [(s, c)] else f i) N := by
  have ha := (h.each u a hu).1
  have tk : ∀ {x : Addr} {xs : List V}, H x = some (.tup xs) → (upd H a (.lst ((tt u).map V.ref ++ [.ref p]))) x = some (.tup xs) := fun {x xs} hx => by
    rw [upd_ne (ne_of hx ha fun z => nomatch z)]
    exact hx
  refine ⟨?_, h.len, h.nd, h.apart, fun i b hi => ?_⟩
  · rw [upd_ne fun e => h.apart (by rw [e]; exact List.mem_of_getElem? hu)]
    exact h.lst
  · by_cases e : i = u
    · subst e
      rw [hi] at hu
      have eb := Option.some.inj hu
      subst eb
      refine ⟨by rw [upd_same, if_pos rfl, List.map_append] <;> rfl, ?_⟩
      rw [if_pos rfl, if_pos rfl]
      exact ((h.each i b hi).2.mono fun _ _ z => tk z).snoc (R := fun t (q : Nat × Nat) => (upd H b (.lst ((tt i).map V.ref ++ [.ref p]))) t = some (.tup [.int (q.1 : Nat), .int (q.2 : Nat)])) (b := (s, c)) (tk hp)
    · have hne : b ≠ a := fun z => by
        obtain ⟨h1, e1⟩ := List.getElem?_eq_some_iff.mp hi
        obtain ⟨h2, e2⟩ := List.getElem?_eq_some_iff.mp hu
        exact e ((List.getElem_inj h.nd).mp (e1.trans (z.trans e2.symm)))
      rw [if_neg e, if_neg e, upd_ne hne]
      exact ⟨(h.each i b hi).1, (h.each i b hi).2.mono fun _ _ z => tk z⟩
/-- the ways by one act from the sets below j -/
def waysTo (a : Pn.Act) (j u : Nat) : List (Nat × Nat) := ((List.range j).filter fun s => a.may s && decide (a.then_ s = u)).map fun s => (s, a.cost)
theorem waysTo_no {a : Pn.Act} {j u : Nat} (h : (a.may j && decide (a.then_ j = u)) = false) : waysTo a (j + 1) u = waysTo a j u := by
  unfold waysTo
  rw [List.range_succ, List.filter_append, List.filter_cons, if_neg (by rw [h]; exact Bool.false_ne_true)]
  simp
theorem waysTo_yes {a : Pn.Act} {j u : Nat} (h : (a.may j && decide (a.then_ j = u)) = true) : waysTo a (j + 1) u = waysTo a j u ++ [(j, a.cost)] := by
  unfold waysTo
  rw [List.range_succ, List.filter_append, List.filter_cons, if_pos h]
  simp
section
variable {K : PySem.W.Frag} {mg : Str → Option Value} {Pr : Program} {w : World} {base : Heap} {CT CA CD P : Addr}
/-- [[] for x in range(n)] -/
theorem lc_empties {σ : L2.St} {F : Hp} {ta : TA} {n j : Nat} {vs : List Nat} (h : EvA ta σ F [.int (n : Nat)]) (hn : n ≤ 40000) (hw : ∀ x, wipe ((wipe σ vs).set j (some x)) vs = wipe σ vs) (H0 : Hp) (e0 : Ex F H0) (Q : VK)
    (q : ∀ (l : Addr) (ls : List Addr) (H2 : Hp), H0 l = none → Ex H0 H2 → H2 l = some (.lst (ls.map V.ref)) → ls.length = n → ls.Nodup → l ∉ ls → (∀ a ∈ ls, H0 a = none ∧ H2 a = some (.lst [])) → Q (.ref l) H2) : tLc (iRng1 ta) (gName j) tYes (tLst tNil) vs σ H0 Q :=
  h H0 e0 _ fun H1 e1 => ⟨(n : Int), rfl, by omega, by omega, fun Dl hD =>
    lc_it (walk_range (lo := 0) (n := ((n : Int) - 0).toNat)) (fun i H' => ∃ ls : List Addr, Ex H1 H' ∧ H' Dl = some (.lst (ls.map V.ref)) ∧ ls.length = i ∧ ls.Nodup ∧ Dl ∉ ls ∧ ∀ a ∈ ls, H1 a = none ∧ H' a = some (.lst [])) ⟨[], Ex.new hD, upd_same, rfl, List.nodup_nil, fun m => (nomatch m), fun _ m => (nomatch m)⟩ (fun _ _ _ _ => trivial) (fun i x H H' hi z y => by
      obtain ⟨rfl, rfl⟩ := y
      obtain ⟨ls, z1, z2, z3, z4, z5, z6⟩ := z
      refine ⟨hw _, ⟨Nat.zero_le _, fun p hp => ?_⟩⟩
      have hpD : Dl ≠ p := ne_of_none z2 hp
      have hpl : p ∉ ls := fun m => by
        rw [(z6 p m).2] at hp
        cases hp
      refine ⟨ls.map V.ref, by rw [upd_ne hpD]; exact z2, sz_lt (by rw [List.length_map]; omega), ls ++ [p], Ex.mut (z1.trans (Ex.new hp)) hD, by rw [upd_same, List.map_append] <;> rfl, by rw [List.length_append, z3] <;> rfl, nodup_snoc z4 hpl, fun m => ?_, fun a m => ?_⟩
      · rcases mem_snoc m with m | m
        · exact z5 m
        · exact hpD m
      · rcases mem_snoc m with m | m
        · have hne : a ≠ Dl := fun e => z5 (e ▸ m)
          have hne2 : a ≠ p := fun e => hpl (by rw [← e]; exact m)
          refine ⟨(z6 a m).1, ?_⟩
          rw [upd_ne hne, upd_ne hne2]
          exact (z6 a m).2
        · rw [m]
          exact ⟨fresh_back z1 hp, by rw [upd_ne hpD.symm, upd_same]⟩) (fun H' z => by
      obtain ⟨ls, z1, z2, z3, z4, z5, z6⟩ := z
      exact q Dl ls H' (fresh_back e1 hD) (e1.trans z1) z2 (by rw [z3]; omega) z4 z5 fun a m => ⟨fresh_back e1 (z6 a m).1, (z6 a m).2⟩)⟩
/-! ### ways_into -/
abbrev s_ways_into : Stmt := top 71
theorem sc_ways_into : FnScope ["deeds", "set_count", "ways", "deed", "so"] ["deeds", "set_count"] (defScope s_ways_into) := ⟨rfl, rfl, rfl, by decide +kernel, rfl, by decide +kernel, by decide +kernel⟩
def sp_ways_into (K : PySem.W.Frag) (CD : Addr) : Sp := fun vs H Q _ => ∃ (p : Addr) (ds : List DeedA) (t : Pn.Task) (N : Nat), vs = [.ref p, .int (N : Nat)] ∧ N = 2 ^ t.facts ∧ SqL K H p (dRefs ds) ∧ P2 (DoAt CD H) ds t.acts ∧ Good t ∧ t.acts.length ≤ 100 ∧ N ≤ 256 ∧ ∀ wl ls tt H2, Ex H H2 → WaysAt H2 wl ls tt (ways t) N → Q (.ref wl) H2
theorem has_ways_into {f : Addr} {fd : FuncData} (F : Fun K "ways_into" "ways_into" s_ways_into f fd) (O : Own mg) (C : DCls K CD) (g : mg "ways_into" = some (.ref f)) (h_may_be_done : Has Pr w K mg base 2 "may_be_done" ["deed", "so"] (sp_may CD)) (h_so_behind : Has Pr w K mg base 1 "so_behind" ["deed", "so"] (sp_behind CD)) : Has Pr w K mg base 3 "ways_into" ["deeds", "set_count"] (sp_ways_into K CD) := by
  refine ⟨f, fd, F.ok sc_ways_into (fun vs H Q E h => ?_) (fun cdv A outer s H vs Q E hr h => ?_), g, F.kp, F.binds fun _ _ _ _ _ _ us hl => match us, hl with | [_, _], _ => rfl⟩
  · obtain ⟨_, _, _, _, rfl, _⟩ := h
    rfl
  · obtain ⟨p, ds, t, N, rfl, eN, hp, hds, gd, h100, h256, q⟩ := h
    refine ⟨_, (pss_cons (ps_setLc (i := 2) (own := [("so", 4)]) (g := gName 4) (tt := tYes) (te := tLst tNil) rfl sc_ways_into.nd rfl rfl (sw_true rfl rfl rfl (by decide +kernel)) (pi_range1 (by rfl) O.range (pa_cons (pv 1) pa_nil)) (blkOk_by (N := ["deeds", "set_count", "ways", "deed", "so"]) (sc := defScope s_ways_into) (by decide +kernel)) (fun _ _ _ _ _ => (pg_name (i := 4) sc_ways_into.nd rfl (Or.inl rfl))) (fun _ _ _ _ _ => pts_nil) (fun _ _ _ _ _ => (pe_lst pa_nil)))
      (pss_cons (ps_for PassesOwn.never rfl (pi_list (pv 0)) (pg_name (i := 3) sc_ways_into.nd rfl (Or.inl rfl)) (pss_one (ps_for PassesOwn.never rfl (pi_range1 (by rfl) O.range (pa_cons (pv 1) pa_nil)) (pg_name (i := 4) sc_ways_into.nd rfl (Or.inl rfl)) (pss_one (ps_if (pt_val (pe_own h_may_be_done (hr.mono (by decide)) rfl (pa_cons (pv 3) (pa_cons (pv 4) pa_nil)))) (pss_one (ps_expr (pe_bm PySem.F.plainAttrs_list PySem.F.slot_list_append PySem.F.type_list_append mt_append (pe_ix ix_list (pv 2) (pe_own h_so_behind (hr.mono (by decide)) rfl (pa_cons (pv 3) (pa_cons (pv 4) pa_nil))) (fun _ _ => rfl)) (pa_cons (pe_tup (pa_cons (pv 4) (pa_cons (pe_fld (pv 3) (by rfl)) pa_nil))) pa_nil)))) pss_nil)))))
      (pss_one (ps_ret (pv 2))))), ?_⟩
    have hlen := hds.length
    refine q_asgQ (lc_empties (vs := [4]) (j := 4) (n := N) (ea_cons (ev_var rfl) ea_nil) (by omega) (fun _ => rfl) H (Ex.refl H) _ fun wl ls H1 hwl e1 h1 hll hnd hap hls => ?_)
    show tSeq _ _ _ [some (.ref p), some (.int (N : Nat)), some (.ref wl), none, none] H1
    have W1 : WaysAt H1 wl ls (fun _ => []) (fun _ => []) N := ⟨h1, hll, hnd, hap, fun i a hi => ⟨(hls a (List.mem_of_getElem? hi)).2, .nil⟩⟩
    have hgo := goes_list (K := K) (F := H) (σ := [some (.ref p), some (.int (N : Nat)), some (.ref wl), none, none]) (tl := tVar 0) (ev_var rfl) hp
    rw [List.length_map] at hgo
    refine q_for hgo e1 (fun i σ H' => ∃ (tt : Nat → List Addr) (y3 y4 : Option V), σ = [some (.ref p), some (.int (N : Nat)), some (.ref wl), y3, y4] ∧ Ex H H' ∧ WaysAt H' wl ls tt (fun u => (t.acts.take i).flatMap fun a => waysOf t a u) N ∧ ∀ k, (tt k).length ≤ i * 256) ?_ ?_ ?_ ?_
    · intro H2 e2
      exact ⟨fun _ => [], none, none, rfl, e1.trans e2, W1.mono e2, fun _ => Nat.zero_le _⟩
    · rintro i σ' H' _ ⟨_, _, _, _, e2, _⟩
      exact e2
    · rintro i v σ' H2 H' hi ⟨tt, y3, y4, rfl, e2, W2, hb⟩ ⟨rfl, hv⟩
      have hdi : ds[i]? = some ds[i] := List.getElem?_eq_getElem hi
      obtain ⟨a, ha, hT⟩ := do_get hds hi
      rw [List.getElem?_map, hdi] at hv
      have ev := Option.some.inj hv
      subst ev
      have hg := gd a (List.mem_of_getElem? ha)
      have hi100 : i * 256 ≤ 25600 := by omega
      show tFor _ _ _ _ [some (.ref p), some (.int (N : Nat)), some (.ref wl), some (.ref (ds[i]).b), y4] _
      refine s_forR1 (n := (N : Nat)) (ea_cons (ev_var rfl) ea_nil) ⟨Int.natCast_nonneg _, by omega⟩ (fun j σ H' => ∃ (tt : Nat → List Addr) (y4 : Option V), σ = [some (.ref p), some (.int (N : Nat)), some (.ref wl), some (.ref (ds[i]).b), y4] ∧ Ex H H' ∧ WaysAt H' wl ls tt (fun u => ((t.acts.take i).flatMap fun a => waysOf t a u) ++ waysTo a j u) N ∧ ∀ k, (tt k).length ≤ i * 256 + j) ?_ ?_ ?_
      · intro H3 e3
        refine ⟨tt, y4, rfl, e2.trans e3, ?_, fun k => by have := hb k; omega⟩
        have e : (fun u => ((t.acts.take i).flatMap fun a => waysOf t a u) ++ waysTo a 0 u) = fun u => (t.acts.take i).flatMap fun a => waysOf t a u := by
          funext u
          show _ ++ [] = _
          rw [List.append_nil]
        rw [e]
        exact W2.mono e3
      · rintro j σ' H3 hj ⟨tt3, y4', rfl, e3, W3, hb3⟩
        have hj2 : j < N := by omega
        have T3 : DoAt CD H3 ds[i] a := e3 _ _ hT
        show tIfS _ _ _ _ [some (.ref p), some (.int (N : Nat)), some (.ref wl), some (.ref (ds[i]).b), some (.int (j : Nat))] _
        refine s_when (et_B (KP.ev_call (v := .bl (a.may j)) (ea_cons (ev_var rfl) (ea_cons (ev_var rfl) ea_nil)) fun H4 e4 Q4 q4 => ⟨ds[i], a, j, rfl, e4 _ _ T3, q4⟩)) (fun c H4 e4 => ?_) (fun c H4 e4 => ?_)
        · have hu : a.then_ j < N := by
            rw [eN]
            exact then_lt (by rw [← eN]; exact hj2) hg.1
          have W4 := W3.mono e4
          have T4 : DoAt CD H4 ds[i] a := e4 _ _ T3
          have hla : ls[a.then_ j]? = some (ls[a.then_ j]'(by rw [hll]; exact hu)) := List.getElem?_eq_getElem _
          obtain ⟨hl4, _⟩ := W4.each _ _ hla
          have hb4 := hb3 (a.then_ j)
          refine s_appU (K := K) (ys := [.int (j : Nat), .int (a.cost : Nat)]) hl4 (ev_op (ev_var (v := .ref wl) rfl) (KP.ev_call (v := .int (a.then_ j : Nat)) (ea_cons (ev_var rfl) (ea_cons (ev_var rfl) ea_nil)) fun H5 e5 Q5 q5 => ⟨ds[i], a, j, rfl, e5 _ _ T4, q5⟩) (rv_ixL (sq_of W4.lst) (atI_nat (by rw [List.getElem?_map, hla]; rfl)))) (eu_tup (ea_cons (ev_var rfl) (ea_cons (ev_dcost T4 C (ev_var rfl)) ea_nil)) (by simp)) (by rw [List.length_map]; omega) fun tp H5 htp e5 h5 => ?_
          have hnew := (hls _ (List.mem_of_getElem? hla)).1
          refine ⟨fun k => if k = a.then_ j then tt3 (a.then_ j) ++ [tp] else tt3 k, _, rfl, Ex.mut ((e3.trans e4).trans e5) hnew, ?_, fun k => ?_⟩
          · have W5 := (W4.mono e5).add hla h5
            have e : (fun u => ((t.acts.take i).flatMap fun a => waysOf t a u) ++ waysTo a (j + 1) u) = fun k => if k = a.then_ j then (((t.acts.take i).flatMap fun a' => waysOf t a' (a.then_ j)) ++ waysTo a j (a.then_ j)) ++ [(j, a.cost)] else ((t.acts.take i).flatMap fun a => waysOf t a k) ++ waysTo a j k := by
              funext u
              by_cases eu : u = a.then_ j
              · rw [if_pos eu, eu, waysTo_yes (by rw [c, Bool.true_and]; exact decide_eq_true rfl), List.append_assoc]
              · rw [if_neg eu, waysTo_no (by rw [c, Bool.true_and]; exact decide_eq_false fun z => eu z.symm)]
            rw [e]
            exact W5
          · show (if k = a.then_ j then tt3 (a.then_ j) ++ [tp] else tt3 k).length ≤ _
            split
            · rw [List.length_append]
              show _ + 1 ≤ _
              omega
            · have := hb3 k
              omega
        · refine ⟨tt3, _, rfl, e3.trans e4, ?_, fun k => by have := hb3 k; omega⟩
          have e : (fun u => ((t.acts.take i).flatMap fun a => waysOf t a u) ++ waysTo a (j + 1) u) = fun u => ((t.acts.take i).flatMap fun a => waysOf t a u) ++ waysTo a j u := by
            funext u
            rw [waysTo_no (by rw [c, Bool.false_and])]
          rw [e]
          exact W3.mono e4
      · rintro σ' H3 ⟨tt3, y4', rfl, e3, W3, hb3⟩
        refine ⟨tt3, _, y4', rfl, e3, ?_, fun k => by
          have h1 := hb3 k
          rw [Int.toNat_natCast] at h1
          omega⟩
        have e : (fun u => (t.acts.take (i + 1)).flatMap fun a => waysOf t a u) = fun u => ((t.acts.take i).flatMap fun a => waysOf t a u) ++ waysTo a ((N : Nat) : Int).toNat u := by
          funext u
          rw [take_succ ha, List.flatMap_append, Int.toNat_natCast, eN]
          congr 1
          show waysOf t a u ++ [] = _
          rw [List.append_nil] <;> rfl
        rw [e]
        exact W3
    · rintro σ' H' ⟨tt, y3, y4, rfl, e2, W2, hb⟩
      refine s_ret (ev_var rfl) fun H3 e3 => q wl ls tt H3 (e2.trans e3) ?_
      rw [hlen, List.take_length] at W2
      exact W2.mono e3
end
end KP
set_option Elab.async false
set_option linter.all false
set_option maxRecDepth 100000
set_option maxHeartbeats 1600000
/-! plans.py: rest_costs. -/
namespace KP
open PySem PySem.Spec PyProof.Rows L2 Evl LamX NdefX
/-- what stands while dicts change and the lambda is made -/
structure Stands (P : Addr) (F0 H H2 : Hp) : Prop where
  ex : Ex F0 H2
  back : ∀ b, H2 b = none → H b = none
  tab : TabS H2 P qLam
section
variable {P : Addr} {F0 H H2 H3 : Hp}
theorem Stands.same (h : Stands P F0 H H2) (e : Ex H2 H3) : Stands P F0 H H3 := ⟨h.ex.trans e, fun b hb => h.back b (fresh_back e hb), h.tab.ext e⟩
theorem Stands.past (h : Stands P F0 H H2) (p : Past P H2 H3) (hF : ∀ b ps, F0 b ≠ some (.tbl ps)) : Stands P F0 H H3 := ⟨fun b o hb => p.ext b o (h.ex _ _ hb) fun ps z => hF b ps (by rw [hb, z]), fun b hb => h.back b (p.back b hb), p.tab⟩
theorem Stands.dict {d : Addr} {kvs kvs2 : List (Key × V)} (h : Stands P F0 H H2) (hd : H2 d = some (.dK kvs)) (h0 : F0 d = none) : Stands P F0 H (upd H2 d (.dK kvs2)) := by
  refine ⟨Ex.mut h.ex h0, fun b hb => ?_, ?_⟩
  · by_cases e : b = d
    · rw [e, upd_same] at hb
      cases hb
    · rw [upd_ne e] at hb
      exact h.back b hb
  · obtain ⟨ps, h1, h2, h3⟩ := h.tab
    refine ⟨ps, by rw [upd_ne (ne_of h1 hd fun z => nomatch z)]; exact h1, h2, fun pos cv hc => ?_⟩
    obtain ⟨c, e1, e2⟩ := h3 pos cv hc
    refine ⟨c, e1, ?_⟩
    have hne : c ≠ d := ne_of e2 hd fun z => by
      unfold CodeO at z
      cases z
    rw [upd_ne hne]
    exact e2
theorem bare_no (b : Addr) (ps : Array Value) : bare H b ≠ some (.tbl ps) := fun h => by
  have := bare_sub H b _ h
  unfold bare at h
  rw [this] at h
  cases h
end
section
variable {K : PySem.W.Frag} {mg : Str → Option Value} {Pr : Program} {w : World} {base : Heap} {CT CA CD P : Addr}
theorem ev_lenDK {σ : L2.St} {F : Hp} {ta : TE} {d : Addr} {kvs : List (Key × V)} (ha : Ev ta σ F (.ref d)) (h : F d = some (.dK kvs)) : Ev (tCB (fun xs H Q => ∃ a kvs, xs = [V.ref a] ∧ H a = some (.dK kvs) ∧ Q (.int kvs.length) H) (tCons ta tNil)) σ F (.int (kvs.length : Nat)) := fun H1 e Q q =>
  ha H1 e _ fun H2 e2 => ⟨d, kvs, rfl, (e.trans e2) _ _ h, q H2 e2⟩
theorem ev_min2 {σ : L2.St} {F : Hp} {ta tb : TE} {i j : Int} (ha : Ev ta σ F (.int i)) (hb : Ev tb σ F (.int j)) : Ev (tCB (fun xs H Q => ∃ i j, xs = [V.int i, .int j] ∧ Q (.int (if j < i then j else i)) H) (tCons ta (tCons tb tNil))) σ F (.int (if j < i then j else i)) := fun H1 e Q q =>
  ha H1 e _ (fun N k2 => hb N (e.trans k2) _ (fun M k3 => ⟨i, j, rfl, q M (k2.trans k3)⟩))
theorem ev_nget2 {σ : L2.St} {F : Hp} {td ty tx : TE} {a : Addr} {s z : Nat} {kvs : List (Key × V)} {R : Nat → Option Nat} {N : Nat} (hd : Ev td σ F (.ref a)) (hy : Ev ty σ F (.int (s : Nat))) (hz : Ev tx σ F (.int (z : Nat))) (h : F a = some (.dK kvs)) (D : DI kvs R N) : Ev (tDGet2 td ty tx) σ F (.int (((R s).getD z : Nat) : Int)) := fun H1 e Q q =>
  hd H1 e _ fun H2 e2 => ⟨a, rfl, .inl ⟨kvs, .inl ((e.trans e2) _ _ h)⟩, hy H2 (e.trans e2) _ fun H3 e3 => hz H3 ((e.trans e2).trans e3) _ fun H4 e4 => ⟨_, DGet.k (H := H4) (a := a) (kvs := kvs) (k := nK s) ((((e.trans e2).trans e3).trans e4) _ _ h), by
    rw [D.val]
    have := q H4 ((e2.trans e3).trans e4)
    cases hR : R s with
    | none =>
      rw [hR] at this
      exact this
    | some c =>
      rw [hR] at this
      exact this⟩⟩
abbrev s_rest_costs : Stmt := top 68
theorem sc_rest_costs : FnScope ["deeds", "set_count", "wanted", "ways", "waiting", "rest", "so", "before", "cost", "whole"] ["deeds", "set_count", "wanted"] (defScope s_rest_costs) := ⟨rfl, rfl, rfl, by decide +kernel, rfl, by decide +kernel, by decide +kernel⟩
def sp_rest (K : PySem.W.Frag) (CD P : Addr) : Sp := fun vs H Q _ => ∃ (p : Addr) (ds : List DeedA) (t : Pn.Task) (N : Nat), vs = [.ref p, .int (N : Nat), .int (t.goal : Nat)] ∧ N = 2 ^ t.facts ∧ SqL K H p (dRefs ds) ∧ P2 (DoAt CD H) ds t.acts ∧ Good t ∧ t.acts.length ≤ 100 ∧ N ≤ 256 ∧ TabS H P qLam ∧
  ∀ r kvs R H2, Past P H H2 → H r = none → H2 r = some (.dK kvs) → DI kvs R N → (∀ s, s < N → R s = Pn.at_ t.costs s) → Q (.ref r) H2
theorem has_rest_costs {f : Addr} {fd : FuncData} (F : Fun K "rest_costs" "rest_costs" s_rest_costs f fd) (O : Own mg) (g : mg "rest_costs" = some (.ref f)) (h_ways_into : Has Pr w K mg base 3 "ways_into" ["deeds", "set_count"] (sp_ways_into K CD)) (h_costs_at_the_end : Has Pr w K mg base 2 "costs_at_the_end" ["set_count", "wanted"] sp_ends) (h_cheapest_waiting : Has Pr w K mg base 3 "cheapest_waiting" ["waiting"] (sp_waiting P)) : Has Pr w K mg base 4 "rest_costs" ["deeds", "set_count", "wanted"] (sp_rest K CD P) := by
  refine ⟨f, fd, F.ok sc_rest_costs (fun vs H Q E h => ?_) (fun cdv A outer s H vs Q E hr h => ?_), g, F.kp, F.binds fun _ _ _ _ _ _ us hl => match us, hl with | [_, _, _], _ => rfl⟩
  · obtain ⟨_, _, _, _, rfl, _⟩ := h
    rfl
  · obtain ⟨p, ds, t, N, rfl, eN, hp, hds, gd, h100, h256, hT, q⟩ := h
    have hu := hu_of hr
    refine ⟨_, (pss_cons (ps_set (i := 3) sc_rest_costs.nd rfl (Or.inl rfl) (pe_own h_ways_into (hr.mono (by decide)) rfl (pa_cons (pv 0) (pa_cons (pv 1) pa_nil))))
      (pss_cons (ps_set (i := 4) sc_rest_costs.nd rfl (Or.inl rfl) (pe_own h_costs_at_the_end (hr.mono (by decide)) rfl (pa_cons (pv 1) (pa_cons (pv 2) pa_nil))))
      (pss_cons (ps_set (i := 5) sc_rest_costs.nd rfl (Or.inl rfl) pe_dnewK)
      (pss_cons (ps_while PassesOwn.never (pt_cmpR op_gt (pe_callB call_lenD (by rfl) O.len (by decide +kernel) (pa_cons (pv 4) pa_nil)) pe_int (nomark _)) (pss_cons (ps_set (i := 6) sc_rest_costs.nd rfl (Or.inl rfl) (pe_own h_cheapest_waiting (hr.mono (by decide)) rfl (pa_cons (pv 4) pa_nil)))
      (pss_cons (ps_dput hu (pv 5) (pv 6) (pe_dpop1 (pv 4) (pv 6) ⟨rfl, rfl, rfl, rfl⟩) rfl)
      (pss_one (ps_for PassesOwn.never rfl (pi_list (pe_ix ix_list (pv 3) (pv 6) (fun _ _ => rfl))) (pg_tup rfl (pgs_cons (pg_name (i := 7) sc_rest_costs.nd rfl (Or.inl rfl)) (pgs_cons (pg_name (i := 8) sc_rest_costs.nd rfl (Or.inl rfl)) pgs_nil))) (pss_one (ps_if (pt_cmp (pc_dnotin hu (pv 7) (pv 5))) (pss_cons (ps_set (i := 9) sc_rest_costs.nd rfl (Or.inl rfl) (pe_op op_add (pe_dget hu (pv 5) (pv 6) (fun _ _ => rfl)) (pv 8)))
      (pss_one (ps_dput hu (pv 4) (pv 7) (pe_callB (call_min2 rfl) (by rfl) O.min (by decide +kernel) (pa_cons (pv 9) (pa_cons (pe_dget2 hu (pv 4) (pv 7) (pv 9) ⟨rfl, rfl, rfl, rfl⟩) pa_nil))) rfl))) pss_nil)))))))
      (pss_one (ps_ret (pv 5))))))), ?_⟩
    -- ways = ways_into(deeds, set_count)
    refine ⟨_, rfl, _, rfl, p, ds, t, N, rfl, eN, hp, hds, gd, h100, h256, fun wl ls tt H1 e1 W1 => ?_⟩
    -- waiting = costs_at_the_end(set_count, wanted)
    refine ⟨_, rfl, _, rfl, t, by rw [← eN] <;> rfl, by rw [← eN]; exact h256, fun d kw0 H2 hd e2 h2 D0 => ?_⟩
    -- rest = {}
    intro r hr0
    have hdr : d ≠ r := ne_of_none h2 hr0
    have W0 := W1.bare
    have nF : ∀ b ps, bare H1 b ≠ some (.tbl ps) := fun b ps => bare_no b ps
    have d0 : bare H1 d = none := fresh_back (bare_sub H1) hd
    have r0 : bare H1 r = none := fresh_back ((bare_sub H1).trans e2) hr0
    have S3 : Stands P (bare H1) H (upd H2 r (.dK [])) := ⟨((bare_sub H1).trans e2).trans (Ex.new hr0), fun b hb => fresh_back (e1.trans (e2.trans (Ex.new hr0))) hb, hT.ext (e1.trans (e2.trans (Ex.new hr0)))⟩
    have hEx : ∀ {H4}, Stands P (bare H1) H H4 → Past P H H4 := fun {H4} S => ⟨fun b o hb n => S.ex _ _ (bare_of (e1 _ _ hb) n), S.back, S.tab⟩
    rw [← eN] at D0
    show tSeq _ _ _ [some (.ref p), some (.int (N : Nat)), some (.int (t.goal : Nat)), some (.ref wl), some (.ref d), some (.ref r), none, none, none, none] _
    refine q_while (fun m σ' H' => ∃ (kw kr : List (Key × V)) (Rf Wf : Nat → Option Nat) (y6 y7 y8 y9 : Option V), σ' = [some (.ref p), some (.int (N : Nat)), some (.int (t.goal : Nat)), some (.ref wl), some (.ref d), some (.ref r), y6, y7, y8, y9] ∧ Stands P (bare H1) H H' ∧ H' d = some (.dK kw) ∧ DI kw Wf N ∧ H' r = some (.dK kr) ∧ DI kr Rf N ∧ Dij t Rf Wf ∧ m + kr.length = N) N ?_ ?_
    · exact ⟨kw0, [], fun _ => none, ends t, none, none, none, none, rfl, S3, by rw [upd_ne hdr]; exact h2, D0, upd_same, DI.nil, dij_start t, rfl⟩
    · rintro m σ' H' ⟨kw, kr, Rf, Wf, y6, y7, y8, y9, rfl, S4, hd4, Dw, hr4, Dr, DJ, hm⟩
      refine ⟨decide ((kw.length : Int) > 0), et_cmpI (ev_lenDK (ev_var rfl) hd4) ev_c, fun c H5 e5 => ?_, fun c H5 e5 => ?_⟩
      · have hne : kw.length ≠ 0 := by
          rw [decide_eq_true_eq] at c
          omega
        have S5 := S4.same e5
        refine ⟨fun σ2 H2 => ∃ m', m' < m ∧ ∃ (kw kr : List (Key × V)) (Rf Wf : Nat → Option Nat) (y6 y7 y8 y9 : Option V), σ2 = [some (.ref p), some (.int (N : Nat)), some (.int (t.goal : Nat)), some (.ref wl), some (.ref d), some (.ref r), y6, y7, y8, y9] ∧ Stands P (bare H1) H H2 ∧ H2 d = some (.dK kw) ∧ DI kw Wf N ∧ H2 r = some (.dK kr) ∧ DI kr Rf N ∧ Dij t Rf Wf ∧ m' + kr.length = N, fun _ _ z => z, ?_⟩
        -- so = cheapest_waiting(waiting)
        refine ⟨_, rfl, d, kw, Wf, N, rfl, e5 _ _ hd4, Dw, h256, hne, S5.tab, fun u cu H6 hu hle past => ?_⟩
        have S6 := S5.past past nF
        have hd6 : H6 d = some (.dK kw) := past.ext _ _ (e5 _ _ hd4) fun _ z => (nomatch z)
        have hr6 : H6 r = some (.dK kr) := past.ext _ _ (e5 _ _ hr4) fun _ z => (nomatch z)
        have hru : Rf u = none := (DJ.wb u cu hu).1
        have huN : u < N := Dw.lt hu
        -- rest[so] = waiting.pop(so)
        refine ⟨_, rfl, d, rfl, .inl ⟨kw, .inl hd6⟩, _, rfl, kw, nK u, .int (cu : Nat), hd6, rfl, Dw.some_of hu, _, rfl, _, rfl, r, _, rfl, DPut.k (k := nK u) (kvs := kr) (by rw [upd_ne hdr.symm]; exact hr6) (sz_lt (by have := Dr.len; omega)), ?_⟩
        have S7 := (S6.dict (kvs2 := dropK kw (nK u)) hd6 d0).dict (kvs2 := putK kr (nK u) (.int (cu : Nat))) (d := r) (by rw [upd_ne hdr.symm]; exact hr6) r0
        have hd7 : upd (upd H6 d (.dK (dropK kw (nK u)))) r (.dK (putK kr (nK u) (.int (cu : Nat)))) d = some (.dK (dropK kw (nK u))) := by rw [upd_ne hdr, upd_same]
        have hr7 : upd (upd H6 d (.dK (dropK kw (nK u)))) r (.dK (putK kr (nK u) (.int (cu : Nat)))) r = some (.dK (putK kr (nK u) (.int (cu : Nat)))) := upd_same
        generalize upd (upd H6 d (.dK (dropK kw (nK u)))) r (.dK (putK kr (nK u) (.int (cu : Nat)))) = H7 at S7 hd7 hr7
        have Dw7 := Dw.drop (s := u)
        have Dr7 := Dr.put (c := cu) huN
        have hlen7 := Dr.put_len (c := cu) hru
        have hle7 := Dr7.len
        have M0 := DJ.pop gd hu hle
        have hR7 : set1 Rf u (some cu) u = some cu := set1_same
        generalize hkr7 : putK kr (nK u) (.int (cu : Nat)) = kr7 at hr7 Dr7 hlen7 hle7
        generalize set1 Rf u (some cu) = R7 at Dr7 M0 hR7
        have hla : ls[u]? = some (ls[u]'(by rw [W0.len]; exact huN)) := List.getElem?_eq_getElem _
        obtain ⟨hlu, hpu⟩ := W0.each _ _ hla
        have hplen := hpu.length
        -- for before, cost in ways[so]
        have hgo := goes_list (K := K) (F := bare H1) (σ := [some (.ref p), some (.int (N : Nat)), some (.int (t.goal : Nat)), some (.ref wl), some (.ref d), some (.ref r), some (.int (u : Nat)), y7, y8, y9]) (tl := tOp (rIxL K) (tVar 3) (tVar 6)) (ev_op (ev_var rfl) (ev_var rfl) (rv_ixL (sq_of W0.lst) (atI_nat (by rw [List.getElem?_map, hla]; rfl)))) (sq_of hlu)
        rw [List.length_map] at hgo
        refine s_for hgo S7.ex (fun i σ' H' => ∃ (kw2 : List (Key × V)) (W2 : Nat → Option Nat) (z7 z8 z9 : Option V), σ' = [some (.ref p), some (.int (N : Nat)), some (.int (t.goal : Nat)), some (.ref wl), some (.ref d), some (.ref r), some (.int (u : Nat)), z7, z8, z9] ∧ Stands P (bare H1) H H' ∧ H' d = some (.dK kw2) ∧ DI kw2 W2 N ∧ H' r = some (.dK kr7) ∧ Mid t R7 W2 u ((ways t u).take i)) ?_ ?_ ?_ ?_
        · intro H8 e8
          exact ⟨_, _, y7, y8, y9, rfl, S7.same e8, e8 _ _ hd7, Dw7, e8 _ _ hr7, M0⟩
        · rintro i σ' H' _ ⟨_, _, _, _, _, _, S8, _⟩
          exact S8.ex
        · rintro i v σ' H8 H' hi ⟨kw2, W2, z7, z8, z9, rfl, S8, hd8, Dw8, hr8, M8⟩ ⟨rfl, hv⟩
          have hti : (tt u)[i]? = some (tt u)[i] := List.getElem?_eq_getElem hi
          obtain ⟨bq, hbq, htp⟩ := P2.geta hpu hti
          obtain ⟨b, qc⟩ := bq
          rw [List.getElem?_map, hti] at hv
          have ev := Option.some.inj hv
          subst ev
          obtain ⟨hbN, hkb⟩ := mem_ways.mp (List.mem_of_getElem? hbq)
          have hbN2 : b < N := by rw [eN]; exact hbN
          have M9 := M8.relax gd hR7 hbN hkb
          rw [← take_succ hbq] at M9
          refine g_pairS (K := K) (st_of (S8.ex _ _ htp)) ?_
          show tIfS _ _ _ _ [some (.ref p), some (.int (N : Nat)), some (.int (t.goal : Nat)), some (.ref wl), some (.ref d), some (.ref r), some (.int (u : Nat)), some (.int (b : Nat)), some (.int (qc : Nat)), z9] _
          refine s_when (et_B (ev_nnotin (ev_var rfl) (ev_var rfl) hr8 Dr7)) (fun cn H9 e9 => ?_) (fun cn H9 e9 => ?_)
          · have hRb : R7 b = none := by
              cases hb : R7 b with
              | none => rfl
              | some x =>
                rw [hb] at cn
                cases cn
            have S9 := S8.same e9
            refine q_asg (v := .int ((cu + qc : Nat) : Int)) (ev_is (ev_add (ev_nget (ev_var rfl) (ev_var rfl) (e9 _ _ hr8) Dr7 hR7) (ev_var (v := .int (qc : Nat)) rfl)) ?_) fun H10 e10 => ?_
            · congr 1
            have S10 := S9.same e10
            have hd10 := (e9.trans e10) _ _ hd8
            have hr10 := (e9.trans e10) _ _ hr8
            have hmin : ((if (((W2 b).getD (cu + qc) : Nat) : Int) < ((cu + qc : Nat) : Int) then (((W2 b).getD (cu + qc) : Nat) : Int) else ((cu + qc : Nat) : Int))) = ((min (cu + qc) ((W2 b).getD (cu + qc)) : Nat) : Int) := by
              by_cases hlt : (W2 b).getD (cu + qc) < cu + qc
              · rw [if_pos (by omega), Nat.min_eq_right (by omega)]
              · rw [if_neg (by omega), Nat.min_eq_left (by omega)]
            refine dput_of (F := H10) (kvs := kw2) (k := nK b) (v := .int ((min (cu + qc) ((W2 b).getD (cu + qc)) : Nat) : Int)) (ev_is (ev_min2 (ev_var (v := .int ((cu + qc : Nat) : Int)) rfl) (ev_nget2 (ev_var rfl) (ev_var rfl) (ev_var (v := .int ((cu + qc : Nat) : Int)) rfl) hd10 Dw8)) (by rw [hmin])) (ev_var rfl) (ev_var rfl) (Ex.refl H10) fun H11 e11 => ⟨e11 _ _ hd10, by have := Dw8.len; omega, ?_⟩
            have S11 := S10.same e11
            refine ⟨_, _, _, _, _, rfl, S11.dict (e11 _ _ hd10) d0, upd_same, Dw8.put hbN2, by rw [upd_ne hdr.symm]; exact e11 _ _ hr10, ?_⟩
            have er : relax R7 W2 cu (b, qc) = set1 W2 b (some (min (cu + qc) ((W2 b).getD (cu + qc)))) := if_pos hRb
            rw [er] at M9
            exact M9
          · have hRb : ¬ R7 b = none := fun hb => by
              rw [hb] at cn
              cases cn
            have er : relax R7 W2 cu (b, qc) = W2 := if_neg hRb
            rw [er] at M9
            exact ⟨kw2, W2, _, _, _, rfl, S8.same e9, e9 _ _ hd8, Dw8, e9 _ _ hr8, M9⟩
        · rintro σ' H8 ⟨kw2, W2, z7, z8, z9, rfl, S8, hd8, Dw8, hr8, M8⟩
          rw [hplen, List.take_length] at M8
          exact ⟨m - 1, by omega, kw2, kr7, R7, W2, _, _, _, _, rfl, S8, hd8, Dw8, hr8, Dr7, M8.whole, by omega⟩
      · have h0 : kw.length = 0 := by
          rw [decide_eq_false_iff_not] at c
          omega
        have hW := Dw.empty.mp h0
        have S5 := S4.same e5
        refine s_ret (ev_var rfl) fun H6 e6 => ?_
        have S6 := S5.same e6
        refine q r kr Rf H6 (hEx S6) (fresh_back (e1.trans e2) hr0) ((e5.trans e6) _ _ hr4) Dr fun s hs => DJ.done gd hW (by rw [← eN]; exact hs)
end
end KP
set_option Elab.async false
set_option linter.all false
set_option maxRecDepth 100000
set_option maxHeartbeats 1600000
/-! plans.py: cheapest_plan; house.py: plan_answer. -/
namespace KP
open PySem PySem.Spec PyProof.Rows L2 Evl LamX NdefX
theorem step_on {t : Pn.Task} (gd : Good t) {R : Nat → Option Nat} {d : Array (Option Nat)} (hR : ∀ s, s < 2 ^ t.facts → R s = Pn.at_ d s) {s c j : Nat} (hs : s < 2 ^ t.facts) (e : Pn.at_ d s = some c) (hj : j < t.acts.length) : stepOn R (t.act j) s c = true ↔ on t d s j = true := by
  have hu := then_lt hs (gd _ (act_mem hj)).1
  rw [on_iff e]
  unfold stepOn
  rw [hR _ hu, Bool.and_eq_true]
  constructor
  · rintro ⟨h1, h2⟩
    refine ⟨can_iff.mpr ⟨hj, h1⟩, ?_⟩
    cases h3 : Pn.at_ d ((t.act j).then_ s) with
    | none =>
      rw [h3] at h2
      cases h2
    | some c2 =>
      rw [h3] at h2
      exact ⟨c2, rfl, (of_decide_eq_true h2).symm⟩
  · rintro ⟨h1, c2, h3, h4⟩
    refine ⟨(can_iff.mp h1).2, ?_⟩
    rw [h3]
    exact decide_eq_true h4.symm
theorem plan_lt {t : Pn.Task} : ∀ {l : List Nat} {s : Nat}, t.plan s l = true → ∀ k ∈ l, k < t.acts.length
  | [], _, _, _, m => (nomatch m)
  | j :: l, s, h, k, m => by
    obtain ⟨h1, h2⟩ := plan_cons_iff.mp h
    rcases List.mem_cons.mp m with e | m
    · rw [e]
      exact (can_iff.mp h1).1
    · exact plan_lt h2 k m
section
variable {K : PySem.W.Frag} {mg : Str → Option Value} {Pr : Program} {w : World} {base : Heap} {CT CA CH CD P : Addr}
abbrev s_cheapest_plan : Stmt := top 65
theorem sc_cheapest_plan : FnScope ["deeds", "fact_count", "first", "wanted", "rest", "plan", "so", "number"] ["deeds", "fact_count", "first", "wanted"] (defScope s_cheapest_plan) := ⟨rfl, rfl, rfl, by decide +kernel, rfl, by decide +kernel, by decide +kernel⟩
def sp_cheapest (K : PySem.W.Frag) (CD P : Addr) : Sp := fun vs H Q _ => ∃ (p : Addr) (ds : List DeedA) (t : Pn.Task), vs = [.ref p, .int (t.facts : Nat), .int (t.start : Nat), .int (t.goal : Nat)] ∧ SqL K H p (dRefs ds) ∧ P2 (DoAt CD H) ds t.acts ∧ Good t ∧ t.acts.length ≤ 100 ∧ t.facts ≤ 8 ∧ t.start < 2 ^ t.facts ∧ TabS H P qLam ∧
  (∀ H2, t.first t.start = none → Past P H H2 → Q .non H2) ∧ (∀ l pl H2, t.first t.start = some l → l.length ≤ 256 → Past P H H2 → H pl = none → H2 pl = some (.lst (bytesV l)) → Q (.ref pl) H2)
theorem has_cheapest_plan {f : Addr} {fd : FuncData} (F : Fun K "cheapest_plan" "cheapest_plan" s_cheapest_plan f fd) (g : mg "cheapest_plan" = some (.ref f)) (h_rest_costs : Has Pr w K mg base 4 "rest_costs" ["deeds", "set_count", "wanted"] (sp_rest K CD P)) (h_lowest_step : Has Pr w K mg base 4 "lowest_step" ["deeds", "rest", "so"] (sp_lowest_step K CD)) (h_so_behind : Has Pr w K mg base 1 "so_behind" ["deed", "so"] (sp_behind CD)) : Has Pr w K mg base 5 "cheapest_plan" ["deeds", "fact_count", "first", "wanted"] (sp_cheapest K CD P) := by
  refine ⟨f, fd, F.ok sc_cheapest_plan (fun vs H Q E h => ?_) (fun cdv A outer s H vs Q E hr h => ?_), g, F.kp, F.binds fun _ _ _ _ _ _ us hl => match us, hl with | [_, _, _, _], _ => rfl⟩
  · obtain ⟨_, _, _, rfl, _⟩ := h
    rfl
  · obtain ⟨p, ds, t, rfl, hp, hds, gd, h100, h8, hst, hT, q1, q2⟩ := h
    have hu := hu_of hr
    refine ⟨_, (pss_cons (ps_set (i := 4) sc_cheapest_plan.nd rfl (Or.inl rfl) (pe_own h_rest_costs (hr.mono (by decide)) rfl (pa_cons (pv 0) (pa_cons (pe_op op_shl pe_int (pv 1)) (pa_cons (pv 3) pa_nil)))))
      (pss_cons (ps_if (pt_cmp (pc_dnotin hu (pv 2) (pv 4))) (pss_one (ps_ret pe_non)) pss_nil)
      (pss_cons (ps_set (i := 5) sc_cheapest_plan.nd rfl (Or.inl rfl) (pe_lst pa_nil))
      (pss_cons (ps_set (i := 6) sc_cheapest_plan.nd rfl (Or.inl rfl) (pv 2))
      (pss_cons (ps_while PassesOwn.never (pt_cmpR op_gt (pe_dget hu (pv 4) (pv 6) (fun _ _ => rfl)) pe_int (nomark _)) (pss_cons (ps_set (i := 7) sc_cheapest_plan.nd rfl (Or.inl rfl) (pe_own h_lowest_step (hr.mono (by decide)) rfl (pa_cons (pv 0) (pa_cons (pv 4) (pa_cons (pv 6) pa_nil)))))
      (pss_cons (ps_expr (pe_bm PySem.F.plainAttrs_list PySem.F.slot_list_append PySem.F.type_list_append mt_append (pv 5) (pa_cons (pv 7) pa_nil)))
      (pss_one (ps_set (i := 6) sc_cheapest_plan.nd rfl (Or.inl rfl) (pe_own h_so_behind (hr.mono (by decide)) rfl (pa_cons (pe_ix ix_list (pv 0) (pv 7) (fun _ _ => rfl)) (pa_cons (pv 6) pa_nil))))))))
      (pss_one (ps_ret (pv 5)))))))), ?_⟩
    have hlen := hds.length
    have h256 : 2 ^ t.facts ≤ 256 := by
      calc 2 ^ t.facts ≤ 2 ^ 8 := Nat.pow_le_pow_right (by decide) h8
        _ = 256 := rfl
    have epow : (1 : Int) * 2 ^ ((t.facts : Nat) : Int).toNat = ((2 ^ t.facts : Nat) : Int) := by
      rw [Int.one_mul, Int.toNat_natCast, Int.natCast_pow] <;> rfl
    -- rest = rest_costs(deeds, 1 << fact_count, wanted)
    refine ⟨_, rfl, _, rfl, 1, (t.facts : Nat), rfl, rfl, ⟨Int.natCast_nonneg _, by omega, by decide⟩, _, rfl, p, ds, t, 2 ^ t.facts, by show [V.ref p, V.int (1 * 2 ^ ((t.facts : Nat) : Int).toNat), V.int (t.goal : Nat)] = _; rw [epow] <;> rfl, rfl, hp, hds, gd, h100, h256, hT, fun r kvs R H1 past hr0 hr1 D hR => ?_⟩
    have hDist := costs_dist gd
    have hRst := hR _ hst
    have fi := first_is (t := t) t.start
    have dsk : ∀ {B : DeedA} {a : Pn.Act}, DoAt CD H B a → DoAt CD H1 B a := fun h => past.ext _ _ h fun _ z => HO.noConfusion z
    have hds1 : P2 (DoAt CD H1) ds t.acts := hds.mono fun _ _ z => dsk z
    have hp1 : SqL K H1 p (dRefs ds) := by
      rcases hp with (h | ⟨o, h⟩) | h
      · exact .inl (.inl (past.ext _ _ h fun _ z => HO.noConfusion z))
      · exact .inl (.inr ⟨o, past.ext _ _ h fun _ z => HO.noConfusion z⟩)
      · exact .inr h
    refine q_when (et_B (ev_nnotin (σ := [some (.ref p), some (.int (t.facts : Nat)), some (.int (t.start : Nat)), some (.int (t.goal : Nat)), some (.ref r), none, none, none]) (ev_var rfl) (ev_var rfl) hr1 D)) (fun c H2 e2 => ?_) (fun c H2 e2 => ?_)
    · refine s_ret (v := .non) ev_c fun H3 e3 => q1 H3 ?_ (past.same (e2.trans e3))
      cases ha : Pn.at_ t.costs t.start with
      | none =>
        rw [fi, ha] <;> rfl
      | some z =>
        rw [hRst, ha] at c
        cases c
    obtain ⟨c0, hc0⟩ : ∃ c0, Pn.at_ t.costs t.start = some c0 := by
      cases ha : Pn.at_ t.costs t.start with
      | none =>
        rw [hRst, ha] at c
        cases c
      | some z => exact ⟨z, rfl⟩
    have fi2 : t.first t.start = some (t.best t.costs (2 ^ t.facts) t.start) := by rw [fi, hc0] <;> rfl
    have hbl := best_len t t.costs (2 ^ t.facts) t.start
    -- plan = []; so = first
    refine ⟨Nat.zero_le _, fun pl hpl => ?_⟩
    refine ⟨_, rfl, ?_⟩
    have e3 : Ex H2 (upd H2 pl (.lst [])) := Ex.new hpl
    show tSeq _ _ _ [some (.ref p), some (.int (t.facts : Nat)), some (.int (t.start : Nat)), some (.int (t.goal : Nat)), some (.ref r), some (.ref pl), some (.int (t.start : Nat)), none] _
    refine q_while (fun m σ' H' => ∃ (so mm : Nat) (l : List Nat) (y7 : Option V), σ' = [some (.ref p), some (.int (t.facts : Nat)), some (.int (t.start : Nat)), some (.int (t.goal : Nat)), some (.ref r), some (.ref pl), some (.int (so : Nat)), y7] ∧ Ex H2 H' ∧ H' pl = some (.lst (bytesV l)) ∧ so < 2 ^ t.facts ∧ Pn.at_ t.costs so = some m ∧ cnt t t.costs m ≤ mm ∧ l ++ t.best t.costs mm so = t.best t.costs (2 ^ t.facts) t.start) c0 ?_ ?_
    · exact ⟨t.start, 2 ^ t.facts, [], none, rfl, e3, upd_same, hst, hc0, cnt_le t _ _, rfl⟩
    · rintro m σ' H' ⟨so, mm, l, y7, rfl, e4, h4, hso, hm, hcn, hbest⟩
      have hr4 := (e2.trans e4) _ _ hr1
      have hRso : R so = some m := by rw [hR _ hso]; exact hm
      refine ⟨decide ((m : Int) > 0), et_cmpI (ev_nget (ev_var rfl) (ev_var rfl) hr4 D hRso) ev_c, fun cm H5 e5 => ?_, fun cm H5 e5 => ?_⟩
      · have hm0 : m ≠ 0 := by
          rw [decide_eq_true_eq] at cm
          omega
        obtain ⟨k, c2, m2, hk, hon, hmin, hth, hat, hmc, hlt, hcn2, hbs⟩ := best_step gd hDist hso hm hm0 hcn
        have e15 := (e2.trans e4).trans e5
        have hkd : k < ds.length := by omega
        have hdk : ds[k]? = some ds[k] := List.getElem?_eq_getElem hkd
        obtain ⟨a, ha, hTk⟩ := do_get hds1 hkd
        have hll : l.length + 1 ≤ 256 := by
          have := congrArg List.length hbest
          rw [hbs, List.length_append, List.length_cons] at this
          omega
        refine ⟨fun σ2 H2' => ∃ m', m' < m ∧ ∃ (so mm : Nat) (l : List Nat) (y7 : Option V), σ2 = [some (.ref p), some (.int (t.facts : Nat)), some (.int (t.start : Nat)), some (.int (t.goal : Nat)), some (.ref r), some (.ref pl), some (.int (so : Nat)), y7] ∧ Ex H2 H2' ∧ H2' pl = some (.lst (bytesV l)) ∧ so < 2 ^ t.facts ∧ Pn.at_ t.costs so = some m' ∧ cnt t t.costs m' ≤ mm ∧ l ++ t.best t.costs mm so = t.best t.costs (2 ^ t.facts) t.start, fun _ _ z => z, ?_⟩
        refine q_asg (v := .int (k : Nat)) (KP.ev_call (ea_cons (ev_var rfl) (ea_cons (ev_var rfl) (ea_cons (ev_var rfl) ea_nil))) fun H6 e6 Q6 q6 => ⟨p, r, ds, t, kvs, R, 2 ^ t.facts, so, m, k, rfl, ex_l (e15.trans e6) hp1, hds1.mono fun _ _ z => (e15.trans e6) _ _ z, h100, (e15.trans e6) _ _ hr1, D, hRso, hk, (step_on gd hR hso hm hk).mpr hon, fun j hj hs => hmin j ((step_on gd hR hso hm hj).mp hs), q6⟩) fun H6 e6 => ?_
        have h6 := (e5.trans e6) _ _ h4
        refine q_app (K := K) h6 (ev_var rfl) (ev_var (v := .int (k : Nat)) rfl) (by rw [List.length_map]; omega) fun H7 e7 => ?_
        have e27 : Ex H2 (upd H7 pl (.lst (bytesV l ++ [.int (k : Nat)]))) := Ex.mut (((e4.trans e5).trans e6).trans e7) hpl
        have h7 : upd H7 pl (.lst (bytesV l ++ [.int (k : Nat)])) pl = some (.lst (bytesV l ++ [.int (k : Nat)])) := upd_same
        generalize upd H7 pl (.lst (bytesV l ++ [.int (k : Nat)])) = H8 at e27 h7
        have e18 := e2.trans e27
        refine s_asg (v := .int ((t.act k).then_ so : Nat)) (KP.ev_call (vs := [.ref (ds[k]).b, .int (so : Nat)]) (ea_cons (ev_op (ev_var rfl) (ev_var (v := .int (k : Nat)) rfl) (rv_ixL (ex_l e18 hp1) (atI_nat (by rw [List.getElem?_map, hdk]; rfl)))) (ea_cons (ev_var rfl) ea_nil)) fun H9 e9 Q9 q9 => ⟨ds[k], a, so, rfl, (e18.trans e9) _ _ hTk, by rw [act_at ha] at q9; exact q9⟩) fun H9 e9 => ?_
        refine ⟨c2, hlt, (t.act k).then_ so, m2, l ++ [k], _, rfl, e27.trans e9, ?_, hth, hat, hcn2, ?_⟩
        · rw [e9 _ _ h7]
          unfold bytesV
          rw [List.map_append] <;> rfl
        · rw [List.append_assoc, ← hbest, hbs] <;> rfl
      · have hm0 : m = 0 := by
          rw [decide_eq_false_iff_not] at cm
          omega
        rw [hm0] at hm
        have hs := best_stop (m := mm) gd hDist hso hm
        rw [hs, List.append_nil] at hbest
        refine s_ret (ev_var rfl) fun H6 e6 => q2 l pl H6 (by rw [hbest]; exact fi2) (by rw [hbest]; omega) (past.same ((e2.trans e4).trans (e5.trans e6))) (past.back pl (fresh_back e2 hpl)) ((e5.trans e6) _ _ h4)
end
end KP
set_option Elab.async false
set_option linter.all false
set_option maxRecDepth 100000
set_option maxHeartbeats 1600000
/-! house.py: plan_answer. -/
namespace KP
open PySem PySem.Spec PyProof.Rows L2 Evl LamX NdefX
section
variable {K : PySem.W.Frag} {mg : Str → Option Value} {Pr : Program} {w : World} {base : Heap} {CT CA CH CD P : Addr} {H H2 : Hp}
/-! ### what is no table stands -/
theorem xn_lst {b : Addr} {xs : List V} (e : ExtN H H2) (h : H b = some (.lst xs)) : H2 b = some (.lst xs) := e _ _ h fun _ z => HO.noConfusion z
theorem xn_tup {b : Addr} {xs : List V} (e : ExtN H H2) (h : H b = some (.tup xs)) : H2 b = some (.tup xs) := e _ _ h fun _ z => HO.noConfusion z
theorem xn_dct {b : Addr} {kvs : List (Key × V)} (e : ExtN H H2) (h : H b = some (.dK kvs)) : H2 b = some (.dK kvs) := e _ _ h fun _ z => HO.noConfusion z
theorem xn_ins {b C dx : Addr} {fs : List (Str × V)} (e : ExtN H H2) (h : H b = some (.ins C dx fs)) : H2 b = some (.ins C dx fs) := e _ _ h fun _ z => HO.noConfusion z
theorem xn_sqT {b : Addr} {xs : List V} (e : ExtN H H2) (h : SqT K H b xs) : SqT K H2 b xs := by
  rcases h with (h | ⟨o, h⟩) | h
  · exact .inl (.inl (xn_tup e h))
  · exact .inl (.inr ⟨o, e _ _ h fun _ z => HO.noConfusion z⟩)
  · exact .inr h
theorem xn_sqL {b : Addr} {xs : List V} (e : ExtN H H2) (h : SqL K H b xs) : SqL K H2 b xs := by
  rcases h with (h | ⟨o, h⟩) | h
  · exact .inl (.inl (xn_lst e h))
  · exact .inl (.inr ⟨o, e _ _ h fun _ z => HO.noConfusion z⟩)
  · exact .inr h
theorem xn_claims {x : Pn16.Text} {s : Pn16.Schema} {c : Addr} {ts : List Addr} {ls : List Pn16.Lit} (e : ExtN H H2) (z : ClaimsAt H x s c ts ls) : ClaimsAt H2 x s c ts ls := ⟨xn_lst e z.1, z.2.mono fun _ _ y => xn_tup e y⟩
theorem xn_act {x : Pn16.Text} {B : ActA} {s : Pn16.Schema} (e : ExtN H H2) (z : ActAt CA H x B s) : ActAt CA H2 x B s := ⟨xn_ins e z.ins, xn_lst e z.places, xn_lst e z.kinds, xn_dct e z.dict, xn_claims e z.needs, xn_claims e z.bars, xn_claims e z.brings, xn_claims e z.takes⟩
theorem xn_text {x : Pn16.Text} {A : TextA} (e : ExtN H H2) (T : TextAt CT CA H A x) : TextAt CT CA H2 A x :=
  ⟨xn_ins e T.ins, xn_lst e T.kinds, xn_lst e T.things, xn_lst e T.thingKinds, xn_lst e T.facts, xn_lst e T.factKinds, T.fks.mono fun _ _ z => xn_lst e z, xn_lst e T.acts, T.as.mono fun _ _ z => xn_act e z, xn_lst e T.now, T.ns.mono fun _ _ z => xn_tup e z, xn_lst e T.want, T.ws.mono fun _ _ z => xn_tup e z⟩
theorem xn_cases {as : List Addr} {cs : List (Nat × List Nat)} (e : ExtN H H2) (z : CasesAt K H as cs) : CasesAt K H2 as cs := P2.mono (fun _ _ ⟨b, h1, h2⟩ => ⟨b, xn_sqT e h1, xn_sqT e h2⟩) z
theorem xn_deeds {x : Pn16.Text} {ds : List DeedA} {gs : List (Nat × List Nat)} (e : ExtN H H2) (z : DeedsAt CD H x ds gs) : DeedsAt CD H2 x ds gs := P2.mono (fun _ _ d => ⟨xn_ins e d.ins, xn_lst e d.words⟩) z
theorem xn_house {x : Pn16.Text} {B : HouseA} (e : ExtN H H2) (T : HouseAt K CT CA CH CD H B x) : HouseAt K CT CA CH CD H2 B x := ⟨xn_ins e T.ins, xn_text e T.text, xn_lst e T.facts, xn_cases e T.fa, xn_lst e T.acts, xn_cases e T.aa, xn_lst e T.deeds, xn_deeds e T.ds⟩
theorem sum_price (t : Pn.Task) : ∀ l : List Nat, (l.map fun k => ((t.act k).cost : Int)).sum = ((t.price l : Nat) : Int)
  | [] => rfl
  | k :: l => by
    rw [List.map_cons, List.sum_cons, sum_price t l, price_cons]
    omega
abbrev s_plan_answer : Stmt := top 90
theorem sc_plan_answer : FnScope ["house", "plan", "numbers", "number"] ["house"] (defScope s_plan_answer) := ⟨rfl, rfl, rfl, by decide +kernel, rfl, by decide +kernel, by decide +kernel⟩
def sp_plan (K : PySem.W.Frag) (CT CA CH CD P : Addr) : Sp := fun vs H Q _ => ∃ (B : HouseA) (x : Pn16.Text), vs = [.ref B.h] ∧ HouseAt K CT CA CH CD H B x ∧ HouseOk x ∧ TabS H P qLam ∧ ∀ l H2, H l = none → Past P H H2 → H2 l = some (.lst (intsV (Pn16Neutral.out (Pn16.step ⟨x⟩ .plan).2))) → Q (.ref l) H2
theorem has_plan_answer {f : Addr} {fd : FuncData} (F : Fun K "plan_answer" "plan_answer" s_plan_answer f fd) (O : Own mg) (O2 : Own2 mg) (HC : HCls K CT CA CH CD) (DC : DCls K CD) (g : mg "plan_answer" = some (.ref f)) (h_cheapest_plan : Has Pr w K mg base 5 "cheapest_plan" ["deeds", "fact_count", "first", "wanted"] (sp_cheapest K CD P)) (h_line_bytes : Has Pr w K mg base 1 "line_bytes" ["words"] (sp_line_bytes K)) : Has Pr w K mg base 6 "plan_answer" ["house"] (sp_plan K CT CA CH CD P) := by
  refine ⟨f, fd, F.ok sc_plan_answer (fun vs H Q E h => ?_) (fun cdv A outer s H vs Q E hr h => ?_), g, F.kp, F.binds fun _ _ _ _ _ _ us hl => match us, hl with | [_], _ => rfl⟩
  · obtain ⟨_, _, rfl, _⟩ := h
    rfl
  · obtain ⟨B, x, rfl, HB, hx, hT, q⟩ := h
    refine ⟨_, (pss_cons (ps_set (i := 1) sc_plan_answer.nd rfl (Or.inl rfl) (pe_own h_cheapest_plan (hr.mono (by decide)) rfl (pa_cons (pe_fld (pv 0) (by rfl)) (pa_cons (pe_callB call_len_seq (by rfl) O.len (by decide +kernel) (pa_cons (pe_fld (pv 0) (by rfl)) pa_nil)) (pa_cons (pe_fld (pv 0) (by rfl)) (pa_cons (pe_fld (pv 0) (by rfl)) pa_nil))))))
      (pss_cons (ps_if (pt_cmpR op_isN (pv 1) pe_non (nomark _)) (pss_one (ps_ret (pe_lst (pa_cons (pe_gint O2.noPlan rfl) pa_nil)))) pss_nil)
      (pss_cons (ps_set (i := 2) sc_plan_answer.nd rfl (Or.inl rfl) (pe_lst (pa_cons (pe_callB (cr_sum rfl) (by rfl) O.sum (by decide +kernel) (pa_cons (pe_lc (own := [("number", 3)]) (g := gName 3) (tt := tYes) (te := tFld K (tOp (rIxL K) (tFld K (tVar 0) "deeds") (tVar 3)) "cost") rfl sc_plan_answer.nd (pi_list (pv 1)) (blkOk_by (N := ["house", "plan", "numbers", "number"]) (sc := defScope s_plan_answer) (by decide +kernel)) (fun _ _ _ _ _ => (pg_name (i := 3) sc_plan_answer.nd rfl (Or.inl rfl))) (fun _ _ _ _ _ => pts_nil) (fun _ _ _ _ _ => (pe_fld (pe_ix ix_list (pe_fld (pv 0) (by rfl)) (pv 3) (fun _ _ => rfl)) (by rfl)))) pa_nil)) pa_nil)))
      (pss_cons (ps_for PassesOwn.never rfl (pi_list (pv 1)) (pg_name (i := 3) sc_plan_answer.nd rfl (Or.inl rfl)) (pss_one (ps_expr (pe_bm PySem.F.plainAttrs_list PySem.F.slot_list_extend PySem.F.type_list_extend mt_extend (pv 2) (pa_cons (pe_own h_line_bytes (hr.mono (by decide)) rfl (pa_cons (pe_fld (pe_ix ix_list (pe_fld (pv 0) (by rfl)) (pv 3) (fun _ _ => rfl)) (by rfl)) pa_nil)) pa_nil)))))
      (pss_one (ps_ret (pv 2))))))), ?_⟩
    have hstep : (Pn16.step ⟨x⟩ .plan).2 = match (Pn16.task x).first (Pn16.task x).start with
      | none => Pn16.ok (-6)
      | some l => ⟨((Pn16.task x).price l : Nat), l.flatMap fun k => Pn16.say x ((Pn16.acts x).getD k (0, []))⟩ := rfl
    have gd := task_good hx.text
    have hal : (Pn16.task x).acts.length = (Pn16.acts x).length := by rw [task_acts, List.length_map]
    have h12 := hx.acts
    have h8 := hx.facts
    have hA : EvA (tCons (tFld K (tVar 0) "deeds") (tCons (tCB (rLenS K) (tCons (tFld K (tVar 0) "facts") tNil)) (tCons (tFld K (tVar 0) "first") (tCons (tFld K (tVar 0) "wanted") tNil)))) (start ["house", "plan", "numbers", "number"] [.ref B.h]) H [.ref B.dl, .int ((Pn16.task x).facts : Nat), .int ((Pn16.task x).start : Nat), .int ((Pn16.task x).goal : Nat)] := by
      refine ea_cons (ev_hdeeds HB HC (ev_var rfl)) (ea_cons (ev_is (ev_len (K := K) (ev_hfacts HB HC (ev_var rfl)) (sq_of HB.facts)) ?_) (ea_cons (ev_hfirst HB HC (ev_var rfl)) (ea_cons (ev_hwanted HB HC (ev_var rfl)) ea_nil)))
      rw [List.length_map, HB.fa.length] <;> rfl
    -- plan = cheapest_plan(..)
    refine q_asgQ (hA H (Ex.refl H) _ fun H1 e1 => ?_)
    have HB1 := HB.mono e1
    show sp_cheapest K CD P ([.ref B.dl, .int ((Pn16.task x).facts : Nat), .int ((Pn16.task x).start : Nat), .int ((Pn16.task x).goal : Nat)] ++ []) H1 _ E0
    refine ⟨B.dl, B.ds, Pn16.task x, rfl, sq_of HB1.deeds, do_of HB1.ds, gd, by omega, h8, task_start x, hT.ext e1, fun H2 hn past => ?_, fun l pl H2 hs hl past hpl h2 => ?_⟩
    · rw [hn] at hstep
      show tSeq _ _ _ [some (.ref B.h), some .non, none, none] H2
      refine q_when (et_isN (ev_var rfl)) (fun c H3 e3 => ?_) (fun c H3 e3 => ?_)
      · refine s_retL (el_lst (vs := [.int (-6)]) (ea_cons ev_c ea_nil) (by simp)) fun p H4 hp e4 h4 => q p H4 (fresh_back e1 (past.back p (fresh_back e3 hp))) ((past.same (e3.trans e4)).pre e1) ?_
        rw [h4, hstep, Pn16.ok, out_is] <;> rfl
      · exact absurd c (by decide)
    · rw [hs] at hstep
      have HB2 := xn_house past.ext HB1
      have hfirst := (first_some gd (task_start x)).mp hs
      have hlt : ∀ k ∈ l, k < (Pn16.acts x).length := fun k hk => by
        have := plan_lt hfirst.plan k hk
        rw [hal] at this
        exact this
      have hdl := HB.ds.length
      show tSeq _ _ _ [some (.ref B.h), some (.ref pl), none, none] H2
      refine q_when (et_isN (ev_var rfl)) (fun c H3 e3 => ?_) (fun c H3 e3 => ?_)
      · exact absurd (of_decide_eq_true c) (fun z => nomatch z)
      have HB3 := HB2.mono e3
      have h3 := e3 _ _ h2
      have deed : ∀ k ∈ l, ∃ (D : DeedA) (gg : Nat × List Nat), B.ds[k]? = some D ∧ (Pn16.acts x)[k]? = some gg ∧ DeedAt CD H3 D (sayWords x gg) (Pn16.actOf x gg) ∧ gg ∈ Pn16.acts x ∧ (Pn16.task x).act k = Pn16.actOf x gg ∧ (Pn16.acts x).getD k (0, []) = gg := fun k hk => by
        have hkd : k < B.ds.length := by have := hlt k hk; omega
        have h1 : B.ds[k]? = some B.ds[k] := List.getElem?_eq_getElem hkd
        obtain ⟨gg, hg1, hg2⟩ := P2.geta HB3.ds h1
        refine ⟨B.ds[k], gg, h1, hg1, hg2, List.mem_of_getElem? hg1, act_at ?_, ?_⟩
        · rw [task_acts, List.getElem?_map, hg1] <;> rfl
        · rw [List.getD_eq_getElem?_getD, hg1] <;> rfl
      -- numbers = [sum([house.deeds[number].cost for number in plan])]
      have hgo := goes_list (K := K) (F := H3) (σ := [some (.ref B.h), some (.ref pl), none, none]) (tl := tVar 1) (ev_var rfl) (sq_of h3)
      rw [List.length_map] at hgo
      have hE : EvL (tLc (iList K (tVar 1)) (gName 3) tYes (tFld K (tOp (rIxL K) (tFld K (tVar 0) "deeds") (tVar 3)) "cost") [3]) [some (.ref B.h), some (.ref pl), none, none] H3 (l.map fun k => V.int (((Pn16.task x).act k).cost : Nat)) := by
        refine el_map 0 (xs := l) (c := fun k => V.int (k : Nat)) hgo.new (by omega) (fun _ => rfl) fun k hk => ?_
        obtain ⟨D, gg, h1, _, hD, _, hact, _⟩ := deed k hk
        rw [hact]
        exact ev_dcost hD.ins DC (ev_op (ev_hdeeds HB3 HC (ev_var rfl)) (ev_var (v := .int (k : Nat)) rfl) (rv_ixL (sq_of HB3.deeds) (atI_nat (by rw [List.getElem?_map, h1]; rfl))))
      have hsum : Ev (tCB (rSum K) (tCons (tLc (iList K (tVar 1)) (gName 3) tYes (tFld K (tOp (rIxL K) (tFld K (tVar 0) "deeds") (tVar 3)) "cost") [3]) tNil)) [some (.ref B.h), some (.ref pl), none, none] H3 (.int ((Pn16.task x).price l : Nat)) := fun H4 e4 Q4 q4 => cbl_of hE e4 fun p H5 hp e5 h5 => ⟨p, l.map fun k => (((Pn16.task x).act k).cost : Int), rfl, sq_of (by rw [h5, List.map_map] <;> rfl), by rw [sum_price]; exact q4 H5 e5⟩
      refine q_asgL (xs := [.int ((Pn16.task x).price l : Nat)]) (el_lst (ea_cons hsum ea_nil) (by simp)) fun nl H4 hnl e4 h4 => ?_
      -- for number in plan
      have hnn : H3 nl = none := hnl
      have hgo2 := goes_list (K := K) (F := H3) (σ := [some (.ref B.h), some (.ref pl), some (.ref nl), none]) (tl := tVar 1) (ev_var rfl) (sq_of h3)
      rw [List.length_map] at hgo2
      have bnd : ∀ i, ((l.take i).flatMap fun k => Pn16.say x ((Pn16.acts x).getD k (0, []))).length ≤ 64 * (l.take i).length := fun i => by
        have key : ∀ l' : List Nat, (∀ k ∈ l', k ∈ l) → (l'.flatMap fun k => Pn16.say x ((Pn16.acts x).getD k (0, []))).length ≤ 64 * l'.length := by
          intro l'
          induction l' with
          | nil => intro _; exact Nat.le_refl _
          | cons k r ih =>
            intro hm
            obtain ⟨D, gg, _, _, _, hgm, _, hgd⟩ := deed k (hm k (List.mem_cons_self ..))
            have h1 := short_line (say_short hx.text hgm)
            have h2 := ih fun j hj => hm j (List.mem_cons_of_mem _ hj)
            rw [List.flatMap_cons, List.length_append, List.length_cons, hgd, say_is]
            omega
        exact key _ fun k hk => List.mem_of_mem_take hk
      refine q_for hgo2 e4 (fun i σ H' => ∃ y, σ = [some (.ref B.h), some (.ref pl), some (.ref nl), y] ∧ Ex H3 H' ∧ H' nl = some (.lst (.int ((Pn16.task x).price l : Nat) :: bytesV ((l.take i).flatMap fun k => Pn16.say x ((Pn16.acts x).getD k (0, [])))))) ?_ ?_ ?_ ?_
      · intro H5 e5
        exact ⟨none, rfl, e4.trans e5, e5 _ _ h4⟩
      · rintro i σ' H' _ ⟨_, _, e5, _⟩
        exact e5
      · rintro i v σ' H5 H' hi ⟨y, rfl, e5, h5⟩ ⟨rfl, hv⟩
        have hk : l[i]? = some l[i] := List.getElem?_eq_getElem hi
        have hkm : l[i] ∈ l := List.getElem_mem hi
        rw [List.getElem?_map, hk] at hv
        have ev := Option.some.inj hv
        subst ev
        obtain ⟨D, gg, h1, hg1, hD, hgm, hact, hgd⟩ := deed _ hkm
        have sh := say_short hx.text hgm
        have hsum2 := short_sum sh
        have hsl := short_line sh
        have hb := bnd i
        have hti : (l.take i).length ≤ 256 := by rw [List.length_take]; omega
        have HB5 := HB3.mono e5
        have D5 := hD.mono e5
        show tDrop _ _ [some (.ref B.h), some (.ref pl), some (.ref nl), some (.int (l[i] : Nat))] _
        have hLB : EvL (tCall (sp_line_bytes K) [] E0 (tCons (tFld K (tOp (rIxL K) (tFld K (tVar 0) "deeds") (tVar 3)) "words") tNil)) [some (.ref B.h), some (.ref pl), some (.ref nl), some (.int (l[i] : Nat))] H' (bytesV (Pn16.line (sayWords x gg))) := el_call (ea_cons (ev_dwords D5.ins DC (ev_op (ev_hdeeds HB5 HC (ev_var rfl)) (ev_var (v := .int (l[i] : Nat)) rfl) (rv_ixL (sq_of HB5.deeds) (atI_nat (by rw [List.getElem?_map, h1]; rfl))))) ea_nil) fun H6 e6 Q6 q6 => ⟨D.w, sayWords x gg, rfl, sq_of (e6 _ _ D5.words), sh.1, by omega, q6⟩
        refine ⟨_, rfl, .inl ⟨rfl, _, sq_of h5⟩, hLB H' (Ex.refl H') _ fun bl H6 hbl e6 h6 => ?_⟩
        refine ⟨nl, bl, _, _, rfl, rfl, e6 _ _ h5, h6, ?_, _, rfl, Ex.mut (e5.trans e6) hnn, ?_⟩
        · rw [List.length_cons, List.length_map, List.length_map]
          exact sz_of (by omega)
        · rw [upd_same, take_succ hk, List.flatMap_append]
          unfold bytesV
          rw [List.map_append, List.flatMap_cons, List.flatMap_nil, List.append_nil, hgd, say_is] <;> rfl
      · rintro σ' H5 ⟨y, rfl, e5, h5⟩
        rw [List.take_length] at h5
        refine s_ret (ev_var rfl) fun H6 e6 => q nl H6 (fresh_back e1 (past.back nl (fresh_back e3 hnn))) ((past.same ((e3.trans e5).trans e6)).pre e1) ?_
        rw [e6 _ _ h5, hstep, out_is]
end
end KP
set_option Elab.async false
set_option linter.all false
set_option maxRecDepth 100000
set_option maxHeartbeats 800000
/-! The calls one behind another: what their loop needs. -/
namespace KP
open PySem PySem.Spec PyProof.Rows L2 Evl LamX
/-! ### xs[a:b] -/
theorem cut_two (a b : Nat) (xs : List V) (h1 : a ≤ b) (h2 : b ≤ xs.length) : cutV xs (some (a : Int)) (some (b : Int)) = (xs.drop a).take (b - a) := by
  unfold cutV
  rw [show HT.sIx xs.length 0 (some (a : Int)) = min a xs.length from HT.sIx_nat xs.length 0 a, show ∀ d, HT.sIx xs.length d (some (b : Int)) = min b xs.length from fun d => HT.sIx_nat xs.length d b, Nat.min_eq_left h2, Nat.min_eq_left (Nat.le_trans h1 h2)]
section
variable {K : PySem.W.Frag} {CT CA CH CD P : Addr} {σ : L2.St} {F : Hp}
theorem el_cut {ta tl th : TE} {p : Addr} {xs : List V} {a b : Nat} (ha : Ev ta σ F (.ref p)) (hl : Ev tl σ F (.int (a : Nat))) (hh : Ev th σ F (.int (b : Nat))) (h : SqL K F p xs) (h1 : a ≤ b) (h2 : b ≤ xs.length) : EvL (tSl (rSlL K) ta (tPart tl) (tPart th)) σ F ((xs.drop a).take (b - a)) := fun H1 e Q q =>
  ha H1 e _ fun H2 e2 => hl H2 (e.trans e2) _ fun H3 e3 => ⟨a, rfl, hh H3 ((e.trans e2).trans e3) _ fun H4 e4 => ⟨b, rfl, p, xs, rfl, ex_l (((e.trans e2).trans e3).trans e4) h, fun l hl => by
    refine q l _ (fresh_back ((e2.trans e3).trans e4) hl) (((e2.trans e3).trans e4).trans (Ex.new hl)) ?_
    rw [upd_same, cut_two a b xs h1 h2]⟩⟩
/-! ### where a call's numbers stand -/
theorem mid_get {pre post : List Int} {a : Int} : (pre ++ a :: post)[pre.length]? = some a := by simp
theorem mid_get1 {pre post : List Int} {a b : Int} : (pre ++ a :: b :: post)[pre.length + 1]? = some b := by
  rw [List.getElem?_append_right (by omega), Nat.add_sub_cancel_left]
  rfl
theorem mid_row {pre post r : List Int} {a b : Int} : ((pre ++ (a :: b :: r ++ post)).drop (pre.length + 2)).take r.length = r := by
  rw [← List.drop_drop, List.drop_left]
  show ((r ++ post)).take r.length = r
  exact List.take_left
theorem ev_int {ta tb : TE} {p : Addr} {l : List Int} {i : Nat} {z : Int} (ha : Ev ta σ F (.ref p)) (hb : Ev tb σ F (.int (i : Nat))) (h : SqL K F p (intsV l)) (hz : l[i]? = some z) : Ev (tOp (rIxL K) ta tb) σ F (.int z) :=
  ev_op ha hb (rv_ixL h (atI_nat (by rw [List.getElem?_map, hz]; rfl)))
/-! ### what a call comes to -/
def codeOf : Pn16.Call → Int
  | .read _ => 0
  | .print => 1
  | .facts => 2
  | .acts => 3
  | .task => 4
  | .act _ => 5
  | .plan => 6
  | .fact _ => 7
  | .after _ => 8
def handedOf : Pn16.Call → List Int
  | .read t => intsOf t
  | .act k => [(k : Int)]
  | .fact k => [(k : Int)]
  | .after t => intsOf t
  | _ => []
/-- the house and the numbers behind a call -/
def StepTo (K : PySem.W.Frag) (CT CA CH CD P : Addr) (H : Hp) (B : HouseA) (x : Pn16.Text) (c : Pn16.Call) (Q : VK) : Prop :=
  ∀ B' l H2, B'.h = B.h → HouseAt K CT CA CH CD H2 B' (Pn16.step ⟨x⟩ c).1.text → HouseOk (Pn16.step ⟨x⟩ c).1.text → (∀ r ∈ B'.lists, r ∈ B.lists ∨ H r = none) → H l = none → (∀ b o, H b = some o → b ≠ B.h → (∀ ps, o ≠ .tbl ps) → H2 b = some o) → TabS H2 P qLam → H2 l = some (.lst (intsV (Pn16Neutral.out (Pn16.step ⟨x⟩ c).2))) → Q (.ref l) H2
/-- a call that leaves the house as it was -/
theorem StepTo.past {H H2 : Hp} {B : HouseA} {x : Pn16.Text} {c : Pn16.Call} {Q : VK} {l : Addr} (q : StepTo K CT CA CH CD P H B x c Q) (hB : HouseAt K CT CA CH CD H B x) (hx : HouseOk x) (hs : (Pn16.step ⟨x⟩ c).1.text = x) (hl : H l = none) (e : Past P H H2) (h2 : H2 l = some (.lst (intsV (Pn16Neutral.out (Pn16.step ⟨x⟩ c).2)))) : Q (.ref l) H2 :=
  q B l H2 rfl (by rw [hs]; exact xn_house e.ext hB) (by rw [hs]; exact hx) (fun r hr => .inl hr) hl (fun b o hb _ n => e.ext _ _ hb n) e.tab h2
theorem StepTo.same {H H2 : Hp} {B : HouseA} {x : Pn16.Text} {c : Pn16.Call} {Q : VK} {l : Addr} (q : StepTo K CT CA CH CD P H B x c Q) (hB : HouseAt K CT CA CH CD H B x) (hx : HouseOk x) (t : TabS H P qLam) (hs : (Pn16.step ⟨x⟩ c).1.text = x) (hl : H l = none) (e : Ex H H2) (h2 : H2 l = some (.lst (intsV (Pn16Neutral.out (Pn16.step ⟨x⟩ c).2)))) : Q (.ref l) H2 := q.past hB hx hs hl (Past.of e t) h2
theorem StepTo.pre {H H1 : Hp} {B : HouseA} {x : Pn16.Text} {c : Pn16.Call} {Q : VK} (e : Ex H H1) (q : StepTo K CT CA CH CD P H B x c Q) : StepTo K CT CA CH CD P H1 B x c Q := fun B' l H2 h1 h2 h3 h4 h5 h6 h7 h8 =>
  q B' l H2 h1 h2 h3 (fun r hr => (h4 r hr).imp id fun z => fresh_back e z) (fresh_back e h5) (fun b o hb => h6 b o (e _ _ hb)) h7 h8
theorem blank_ok : HouseOk Pn16.blank := ⟨ok_blank, by decide, by decide⟩
theorem read_house {t : List Nat} {y : Pn16.Text} (hy : TextOk y) (h : Pn16.read t = .ok y) : HouseOk y := by
  unfold Pn16.read at h
  split at h
  · cases h
  · split at h
    · cases h
    · rename_i h1
      split at h
      · cases h
      · rename_i h2
        have e := Except.ok.inj h
        subst e
        refine ⟨hy, ?_, Nat.le_of_not_lt h2⟩
        have : ¬ Pn.FACTS < (Pn16.facts _).length := fun z => h1 (.inr z)
        exact Nat.le_of_not_lt this
/-! ### a long list -/
theorem q_appB {H : Hp} {ta te : TE} {v : V} {D : Ends} {tz : TS} {l : Addr} {xs : List V} (h : H l = some (.lst xs)) (ha : Ev ta σ H (.ref l)) (hv : Ev te σ H v) (hl : xs.length < sizeLine) (k : ∀ H1, Ex H H1 → tz D σ (upd H1 l (.lst (xs ++ [v])))) : tSeq (tDrop (tBM K "list" rAppend ta (tCons te tNil))) tz D σ H :=
  ha H (Ex.refl H) _ fun H1 e1 => ⟨.inl ⟨rfl, _, sq_of (e1 _ _ h)⟩, hv H1 e1 _ fun H2 e2 => ⟨l, xs, v, rfl, rfl, (e1.trans e2) _ _ h, hl, k H2 (e1.trans e2)⟩⟩
theorem s_extB {H : Hp} {ta te : TE} {D : Ends} {l b : Addr} {xs ys : List V} (h : H l = some (.lst xs)) (ha : Ev ta σ H (.ref l)) (hb : Ev te σ H (.ref b)) (hy : H b = some (.lst ys)) (hl : xs.length + ys.length ≤ sizeLine) (k : ∀ H1, Ex H H1 → D.nx σ (upd H1 l (.lst (xs ++ ys)))) : tDrop (tBM K "list" rExtend ta (tCons te tNil)) D σ H :=
  ha H (Ex.refl H) _ fun H1 e1 => ⟨.inl ⟨rfl, _, sq_of (e1 _ _ h)⟩, hb H1 e1 _ fun H2 e2 => ⟨l, b, xs, ys, rfl, rfl, (e1.trans e2) _ _ h, (e1.trans e2) _ _ hy, hl, k H2 (e1.trans e2)⟩⟩
end
end KP
set_option Elab.async false
set_option linter.all false
set_option maxRecDepth 100000
set_option maxHeartbeats 800000
/-! texts.py: answer, one call. -/
namespace KP
open PySem PySem.Spec PyProof.Rows L2 Evl LamX
/-- the numbers of the calls -/
structure Own3 (mg : Str → Option Value) : Prop where
  read : ∃ t, mg "READ" = some (.int 0 t)
  print : ∃ t, mg "PRINT" = some (.int 1 t)
  facts : ∃ t, mg "FACTS" = some (.int 2 t)
  acts : ∃ t, mg "ACTS" = some (.int 3 t)
  task : ∃ t, mg "TASK" = some (.int 4 t)
  act : ∃ t, mg "ACT" = some (.int 5 t)
  plan : ∃ t, mg "PLAN" = some (.int 6 t)
  fact : ∃ t, mg "FACT" = some (.int 7 t)
  after : ∃ t, mg "AFTER" = some (.int 8 t)
section
variable {K : PySem.W.Frag} {mg : Str → Option Value} {Pr : Program} {w : World} {base : Heap} {CT CA CH CD P : Addr} {σ : L2.St}
theorem q_no {H0 H : Hp} {tu tz : TS} {D : Ends} {i j : Int} (e0 : Ex H0 H) (hv : σ[1]? = some (some (.int i))) (ne : i ≠ j) (k : ∀ H1, Ex H0 H1 → tz D σ H1) : tSeq (tIfS (tTest (tOp rEq (tVar 1) (tC (.int j)))) tu tNext) tz D σ H :=
  q_when (et_eqI (ev_var hv) ev_c) (fun c _ _ => absurd (of_decide_eq_true c) ne) fun _ H1 e1 => k H1 (e0.trans e1)
theorem q_yes {H0 H : Hp} {te : TE} {tz : TS} {D : Ends} {i j : Int} (e0 : Ex H0 H) (hv : σ[1]? = some (some (.int i))) (ee : i = j) (k : ∀ H1, Ex H0 H1 → te σ H1 D.rt) : tSeq (tIfS (tTest (tOp rEq (tVar 1) (tC (.int j)))) (tRet te) tNext) tz D σ H :=
  q_when (et_eqI (ev_var hv) ev_c) (fun _ H1 e1 => s_retQ (k H1 (e0.trans e1))) fun c _ _ => absurd ee (of_decide_eq_false c)
theorem told_is (l : List (Nat × List Nat)) : intsV (Pn16Neutral.out (Pn16.told l)) = bytesV (l.length :: numsOf l) := by
  unfold Pn16.told
  rw [out_is]
  rfl
abbrev s_answer : Stmt := top 105
theorem sc_answer : FnScope ["house", "call", "handed"] ["house", "call", "handed"] (defScope s_answer) := ⟨rfl, rfl, rfl, by decide +kernel, rfl, by decide +kernel, by decide +kernel⟩
def sp_answer (K : PySem.W.Frag) (CT CA CH CD P : Addr) : Sp := fun vs H Q _ => ∃ (B : HouseA) (x : Pn16.Text) (c : Pn16.Call) (a : Addr), vs = [.ref B.h, .int (codeOf c), .ref a] ∧ HouseAt K CT CA CH CD H B x ∧ HouseOk x ∧ CallOk c ∧ SqL K H a (intsV (handedOf c)) ∧ TabS H P qLam ∧ StepTo K CT CA CH CD P H B x c Q
theorem has_answer {f : Addr} {fd : FuncData} (F : Fun K "answer" "answer" s_answer f fd) (O3 : Own3 mg) (g : mg "answer" = some (.ref f))
    (h_read_answer : Has Pr w K mg base 6 "read_answer" ["house", "row"] (sp_read K CT CA CH CD)) (h_print_answer : Has Pr w K mg base 5 "print_answer" ["house"] (sp_print K CT CA CH CD)) (h_facts_answer : Has Pr w K mg base 2 "facts_answer" ["house"] (sp_facts K CT CA CH CD)) (h_acts_answer : Has Pr w K mg base 2 "acts_answer" ["house"] (sp_acts K CT CA CH CD)) (h_task_answer : Has Pr w K mg base 1 "task_answer" ["house"] (sp_task K CT CA CH CD))
    (h_act_answer : Has Pr w K mg base 2 "act_answer" ["house", "which"] (sp_act K CT CA CH CD)) (h_plan_answer : Has Pr w K mg base 6 "plan_answer" ["house"] (sp_plan K CT CA CH CD P)) (h_fact_answer : Has Pr w K mg base 2 "fact_answer" ["house", "which"] (sp_fact K CT CA CH CD)) (h_after_answer : Has Pr w K mg base 4 "after_answer" ["house", "acts"] (sp_after K CT CA CH CD)) : Has Pr w K mg base 7 "answer" ["house", "call", "handed"] (sp_answer K CT CA CH CD P) := by
  refine ⟨f, fd, F.ok sc_answer (fun vs H Q E h => ?_) (fun cdv A outer s H vs Q E hr h => ?_), g, F.kp, F.binds fun _ _ _ _ _ _ us hl => match us, hl with | [_, _, _], _ => rfl⟩
  · obtain ⟨_, _, _, _, rfl, _⟩ := h
    rfl
  · obtain ⟨B, x, c, a, rfl, HB, hx, hc, ha, hT, q⟩ := h
    refine ⟨_, (pss_cons (ps_if (pt_cmpR op_eq (pv 1) (pe_gint O3.read rfl) (nomark _)) (pss_one (ps_ret (pe_own h_read_answer (hr.mono (by decide)) rfl (pa_cons (pv 0) (pa_cons (pv 2) pa_nil))))) pss_nil)
      (pss_cons (ps_if (pt_cmpR op_eq (pv 1) (pe_gint O3.print rfl) (nomark _)) (pss_one (ps_ret (pe_own h_print_answer (hr.mono (by decide)) rfl (pa_cons (pv 0) pa_nil)))) pss_nil)
      (pss_cons (ps_if (pt_cmpR op_eq (pv 1) (pe_gint O3.facts rfl) (nomark _)) (pss_one (ps_ret (pe_own h_facts_answer (hr.mono (by decide)) rfl (pa_cons (pv 0) pa_nil)))) pss_nil)
      (pss_cons (ps_if (pt_cmpR op_eq (pv 1) (pe_gint O3.acts rfl) (nomark _)) (pss_one (ps_ret (pe_own h_acts_answer (hr.mono (by decide)) rfl (pa_cons (pv 0) pa_nil)))) pss_nil)
      (pss_cons (ps_if (pt_cmpR op_eq (pv 1) (pe_gint O3.task rfl) (nomark _)) (pss_one (ps_ret (pe_own h_task_answer (hr.mono (by decide)) rfl (pa_cons (pv 0) pa_nil)))) pss_nil)
      (pss_cons (ps_if (pt_cmpR op_eq (pv 1) (pe_gint O3.act rfl) (nomark _)) (pss_one (ps_ret (pe_own h_act_answer (hr.mono (by decide)) rfl (pa_cons (pv 0) (pa_cons (pe_ix ix_list (pv 2) pe_int (fun _ _ => rfl)) pa_nil))))) pss_nil)
      (pss_cons (ps_if (pt_cmpR op_eq (pv 1) (pe_gint O3.plan rfl) (nomark _)) (pss_one (ps_ret (pe_own h_plan_answer (hr.mono (by decide)) rfl (pa_cons (pv 0) pa_nil)))) pss_nil)
      (pss_cons (ps_if (pt_cmpR op_eq (pv 1) (pe_gint O3.fact rfl) (nomark _)) (pss_one (ps_ret (pe_own h_fact_answer (hr.mono (by decide)) rfl (pa_cons (pv 0) (pa_cons (pe_ix ix_list (pv 2) pe_int (fun _ _ => rfl)) pa_nil))))) pss_nil)
      (pss_cons (ps_if (pt_cmpR op_eq (pv 1) (pe_gint O3.after rfl) (nomark _)) (pss_one (ps_ret (pe_own h_after_answer (hr.mono (by decide)) rfl (pa_cons (pv 0) (pa_cons (pv 2) pa_nil))))) pss_nil)
      (pss_one ps_never)))))))))), ?_⟩
    have e := Ex.refl H
    have v0 : ∀ {i : Int} {H1 : Hp}, Ev (tVar 0) [some (.ref B.h), some (.int i), some (.ref a)] H1 (.ref B.h) := ev_var rfl
    have v2 : ∀ {i : Int} {H1 : Hp}, Ev (tVar 2) [some (.ref B.h), some (.int i), some (.ref a)] H1 (.ref a) := ev_var rfl
    cases c with
    | read t =>
      have ht : SqL K H a (bytesV t) := by rw [← intsV_ints]; exact ha
      refine q_yes (i := 0) e rfl rfl fun H1 e1 => (ea_cons v0 (ea_cons v2 ea_nil)) H1 (Ex.refl H1) _ fun H2 e2 => ?_
      have e12 := e1.trans e2
      refine ⟨B, x, a, t, rfl, HB.mono e12, ex_l e12 ht, hc.1, fun n m l H3 hr hl e3 h3 => ?_, fun y B' l H3 hr hy eh hB' hn hl hl2 hk h3 => ?_⟩
      · have es : Pn16.step ⟨x⟩ (.read t) = (⟨x⟩, ⟨-1, [n, m]⟩) := by
          show (match Pn16.read t with
            | .error e => ((⟨x⟩ : Pn16.House), (⟨-1, [e.1, e.2]⟩ : Pn16.Ans))
            | .ok x => (⟨x⟩, ⟨0, [(Pn16.facts x).length, (Pn16.acts x).length]⟩)) = _
          rw [hr]
        refine q.same HB hx hT (by rw [es]) (fresh_back e12 hl) (e12.trans e3) ?_
        rw [h3, es, out_is] <;> rfl
      · have es : Pn16.step ⟨x⟩ (.read t) = (⟨y⟩, ⟨0, [(Pn16.facts y).length, (Pn16.acts y).length]⟩) := by
          show (match Pn16.read t with
            | .error e => ((⟨x⟩ : Pn16.House), (⟨-1, [e.1, e.2]⟩ : Pn16.Ans))
            | .ok x => (⟨x⟩, ⟨0, [(Pn16.facts x).length, (Pn16.acts x).length]⟩)) = _
          rw [hr]
        have keep : ∀ b o, H b = some o → b ≠ B.h → H3 b = some o := fun b o hb n => hk b o (e12 _ _ hb) n
        refine q B' l H3 eh (by rw [es]; exact hB') (by rw [es]; exact read_house hy hr) (fun r hr => .inr (fresh_back e12 (hn r hr))) (fresh_back e12 hl) (fun b o hb n _ => keep b o hb n) ?_ ?_
        · obtain ⟨ps, z1, z2, z3⟩ := hT
          refine ⟨ps, keep _ _ z1 (ne_of z1 HB.ins fun z => nomatch z), z2, fun pos cv hcv => ?_⟩
          obtain ⟨c, c1, c2⟩ := z3 pos cv hcv
          exact ⟨c, c1, keep _ _ c2 (ne_of c2 HB.ins fun z => nomatch z)⟩
        · rw [h3, es, out_is] <;> rfl
    | print =>
      refine q_no (i := 1) e rfl (by decide) fun H1 e => ?_
      refine q_yes (i := 1) e rfl rfl fun H1 e1 => (ea_cons v0 ea_nil) H1 (Ex.refl H1) _ fun H2 e2 => ?_
      have e12 := e1.trans e2
      refine ⟨B, x, rfl, HB.mono e12, hx.text, fun l H3 hl e3 h3 => q.same HB hx hT rfl (fresh_back e12 hl) (e12.trans e3) ?_⟩
      rw [h3]
      show _ = some (HO.lst (intsV (Pn16Neutral.out ⟨((Pn16.print x).length : Nat), Pn16.print x⟩)))
      rw [out_is] <;> rfl
    | facts =>
      refine q_no (i := 2) e rfl (by decide) fun H1 e => ?_
      refine q_no (i := 2) e rfl (by decide) fun H1 e => ?_
      refine q_yes (i := 2) e rfl rfl fun H1 e1 => (ea_cons v0 ea_nil) H1 (Ex.refl H1) _ fun H2 e2 => ?_
      have e12 := e1.trans e2
      refine ⟨B, x, rfl, HB.mono e12, hx, fun l H3 hl e3 h3 => q.same HB hx hT rfl (fresh_back e12 hl) (e12.trans e3) ?_⟩
      rw [h3]
      show _ = some (HO.lst (intsV (Pn16Neutral.out (Pn16.told (Pn16.facts x)))))
      rw [told_is]
    | acts =>
      refine q_no (i := 3) e rfl (by decide) fun H1 e => ?_
      refine q_no (i := 3) e rfl (by decide) fun H1 e => ?_
      refine q_no (i := 3) e rfl (by decide) fun H1 e => ?_
      refine q_yes (i := 3) e rfl rfl fun H1 e1 => (ea_cons v0 ea_nil) H1 (Ex.refl H1) _ fun H2 e2 => ?_
      have e12 := e1.trans e2
      refine ⟨B, x, rfl, HB.mono e12, hx, fun l H3 hl e3 h3 => q.same HB hx hT rfl (fresh_back e12 hl) (e12.trans e3) ?_⟩
      rw [h3]
      show _ = some (HO.lst (intsV (Pn16Neutral.out (Pn16.told (Pn16.acts x)))))
      rw [told_is]
    | task =>
      refine q_no (i := 4) e rfl (by decide) fun H1 e => ?_
      refine q_no (i := 4) e rfl (by decide) fun H1 e => ?_
      refine q_no (i := 4) e rfl (by decide) fun H1 e => ?_
      refine q_no (i := 4) e rfl (by decide) fun H1 e => ?_
      refine q_yes (i := 4) e rfl rfl fun H1 e1 => (ea_cons v0 ea_nil) H1 (Ex.refl H1) _ fun H2 e2 => ?_
      have e12 := e1.trans e2
      refine ⟨B, x, rfl, HB.mono e12, fun l H3 hl e3 h3 => q.same HB hx hT rfl (fresh_back e12 hl) (e12.trans e3) ?_⟩
      rw [h3]
      show _ = some (HO.lst (intsV (Pn16Neutral.out ⟨((Pn16.task x).facts : Nat), [(Pn16.task x).start, (Pn16.task x).goal]⟩)))
      rw [out_is] <;> rfl
    | act k =>
      refine q_no (i := 5) e rfl (by decide) fun H1 e => ?_
      refine q_no (i := 5) e rfl (by decide) fun H1 e => ?_
      refine q_no (i := 5) e rfl (by decide) fun H1 e => ?_
      refine q_no (i := 5) e rfl (by decide) fun H1 e => ?_
      refine q_no (i := 5) e rfl (by decide) fun H1 e => ?_
      refine q_yes (i := 5) e rfl rfl fun H1 e1 => (ea_cons v0 (ea_cons (ev_int (i := 0) (z := (k : Int)) v2 ev_c (ex_l e1 ha) rfl) ea_nil)) H1 (Ex.refl H1) _ fun H2 e2 => ?_
      have e12 := e1.trans e2
      have hs : (Pn16.step ⟨x⟩ (.act k)).1.text = x := by
        show (match (Pn16.acts x)[k]? with
          | none => ((⟨x⟩ : Pn16.House), Pn16.ok (-2))
          | some g => (⟨x⟩, ⟨((Pn16.actOf x g).cost : Nat), [(Pn16.actOf x g).pre, (Pn16.actOf x g).no, (Pn16.actOf x g).add, (Pn16.actOf x g).del] ++ Pn16.say x g⟩)).1.text = _
        split <;> rfl
      exact ⟨B, x, k, rfl, HB.mono e12, hx, fun l H3 hl e3 h3 => q.same HB hx hT hs (fresh_back e12 hl) (e12.trans e3) h3⟩
    | plan =>
      refine q_no (i := 6) e rfl (by decide) fun H1 e => ?_
      refine q_no (i := 6) e rfl (by decide) fun H1 e => ?_
      refine q_no (i := 6) e rfl (by decide) fun H1 e => ?_
      refine q_no (i := 6) e rfl (by decide) fun H1 e => ?_
      refine q_no (i := 6) e rfl (by decide) fun H1 e => ?_
      refine q_no (i := 6) e rfl (by decide) fun H1 e => ?_
      refine q_yes (i := 6) e rfl rfl fun H1 e1 => (ea_cons v0 ea_nil) H1 (Ex.refl H1) _ fun H2 e2 => ?_
      have e12 := e1.trans e2
      exact ⟨B, x, rfl, HB.mono e12, hx, hT.ext e12, fun l H3 hl e3 h3 => q.past HB hx rfl (fresh_back e12 hl) (e3.pre e12) h3⟩
    | fact k =>
      refine q_no (i := 7) e rfl (by decide) fun H1 e => ?_
      refine q_no (i := 7) e rfl (by decide) fun H1 e => ?_
      refine q_no (i := 7) e rfl (by decide) fun H1 e => ?_
      refine q_no (i := 7) e rfl (by decide) fun H1 e => ?_
      refine q_no (i := 7) e rfl (by decide) fun H1 e => ?_
      refine q_no (i := 7) e rfl (by decide) fun H1 e => ?_
      refine q_no (i := 7) e rfl (by decide) fun H1 e => ?_
      refine q_yes (i := 7) e rfl rfl fun H1 e1 => (ea_cons v0 (ea_cons (ev_int (i := 0) (z := (k : Int)) v2 ev_c (ex_l e1 ha) rfl) ea_nil)) H1 (Ex.refl H1) _ fun H2 e2 => ?_
      have e12 := e1.trans e2
      have hs : (Pn16.step ⟨x⟩ (.fact k)).1.text = x := by
        show (match (Pn16.facts x)[k]? with
          | none => ((⟨x⟩ : Pn16.House), Pn16.ok (-2))
          | some g => (⟨x⟩, ⟨(g.2.length : Nat), Pn16.line (Pn16.factName x g.1 :: g.2.map (Pn16.thingName x))⟩)).1.text = _
        split <;> rfl
      exact ⟨B, x, k, rfl, HB.mono e12, hx, fun l H3 hl e3 h3 => q.same HB hx hT hs (fresh_back e12 hl) (e12.trans e3) h3⟩
    | after t =>
      have ht : SqL K H a (bytesV t) := by rw [← intsV_ints]; exact ha
      refine q_no (i := 8) e rfl (by decide) fun H1 e => ?_
      refine q_no (i := 8) e rfl (by decide) fun H1 e => ?_
      refine q_no (i := 8) e rfl (by decide) fun H1 e => ?_
      refine q_no (i := 8) e rfl (by decide) fun H1 e => ?_
      refine q_no (i := 8) e rfl (by decide) fun H1 e => ?_
      refine q_no (i := 8) e rfl (by decide) fun H1 e => ?_
      refine q_no (i := 8) e rfl (by decide) fun H1 e => ?_
      refine q_no (i := 8) e rfl (by decide) fun H1 e => ?_
      refine q_yes (i := 8) e rfl rfl fun H1 e1 => (ea_cons v0 (ea_cons v2 ea_nil)) H1 (Ex.refl H1) _ fun H2 e2 => ?_
      have e12 := e1.trans e2
      exact ⟨B, x, a, t, rfl, HB.mono e12, ex_l e12 ht, fun l H3 hl e3 h3 => q.same HB hx hT rfl (fresh_back e12 hl) (e12.trans e3) h3⟩
end
end KP
set_option Elab.async false
set_option linter.all false
set_option maxRecDepth 100000
set_option maxHeartbeats 800000
/-! texts.py: answers, all calls. -/
namespace KP
open PySem PySem.Spec PyProof.Rows L2 Evl LamX
theorem call_kind (c : Pn16.Call) : ((codeOf c = 5 ∨ codeOf c = 7) ∧ ∃ k : Int, enc c = [codeOf c, k] ∧ handedOf c = [k]) ∨ ((codeOf c = 0 ∨ codeOf c = 8) ∧ enc c = codeOf c :: ((handedOf c).length : Int) :: handedOf c) ∨ ((codeOf c ≠ 5 ∧ codeOf c ≠ 7 ∧ codeOf c ≠ 0 ∧ codeOf c ≠ 8) ∧ enc c = [codeOf c] ∧ handedOf c = []) := by
  have hl : ∀ t : List Nat, ((intsOf t).length : Int) = (t.length : Int) := fun t => by unfold intsOf; rw [List.length_map]
  cases c with
  | read t => exact .inr (.inl ⟨.inl rfl, by show _ :: (t.length : Int) :: _ = _ :: ((intsOf t).length : Int) :: _; rw [hl] <;> rfl⟩)
  | after t => exact .inr (.inl ⟨.inr rfl, by show _ :: (t.length : Int) :: _ = _ :: ((intsOf t).length : Int) :: _; rw [hl] <;> rfl⟩)
  | act k => exact .inl ⟨.inl rfl, _, rfl, rfl⟩
  | fact k => exact .inl ⟨.inr rfl, _, rfl, rfl⟩
  | print => exact .inr (.inr ⟨by decide, rfl, rfl⟩)
  | facts => exact .inr (.inr ⟨by decide, rfl, rfl⟩)
  | acts => exact .inr (.inr ⟨by decide, rfl, rfl⟩)
  | task => exact .inr (.inr ⟨by decide, rfl, rfl⟩)
  | plan => exact .inr (.inr ⟨by decide, rfl, rfl⟩)
theorem enc_pos (c : Pn16.Call) : 0 < (enc c).length := by
  rcases call_kind c with ⟨_, k, e, _⟩ | ⟨_, e⟩ | ⟨_, e, _⟩ <;> rw [e] <;> simp
section
variable {K : PySem.W.Frag} {mg : Str → Option Value} {Pr : Program} {w : World} {base : Heap} {CT CA CH CD P : Addr} {σ : L2.St} {F H : Hp}
abbrev tPlus (ta tb : TE) : TE := tOp (rI0 fun i j => .int (i + j)) ta tb
abbrev tIsN (i : Nat) (j : Int) : TT := tTest (tOp rEq (tVar i) (tC (.int j)))
/-- where a call's numbers stand -/
theorem q_span {tz : TS} {D : Ends} {a h an : Addr} {y4 y5 y6 y7 : Option V} {pre post : List Int} {c : Pn16.Call} (ha : SqL K H a (intsV (pre ++ (enc c ++ post))))
    (k : ∀ (st en : Nat) H1, Ex H H1 → st ≤ en → en = (pre ++ enc c).length → ((pre ++ (enc c ++ post)).drop st).take (en - st) = handedOf c → tz D [some (.ref a), some (.ref h), some (.ref an), some (.int (pre.length : Nat)), some (.int (codeOf c)), some (.int (st : Nat)), some (.int (en : Nat)), y7] H1) :
    tSeq (tAsg (tOp (rIxL K) (tVar 0) (tVar 3)) (gName 4)) (tSeq (tAsg (tPlus (tVar 3) (tC (.int 1))) (gName 5)) (tSeq (tAsg (tVar 5) (gName 6)) (tSeq (tIfS (tOr (tIsN 4 5) (tIsN 4 7)) (tAsg (tPlus (tVar 5) (tC (.int 1))) (gName 6)) (tIfS (tOr (tIsN 4 0) (tIsN 4 8)) (tSeq (tAsg (tPlus (tVar 5) (tC (.int 1))) (gName 5)) (tAsg (tPlus (tVar 5) (tOp (rIxL K) (tVar 0) (tPlus (tVar 3) (tC (.int 1))))) (gName 6))) tNext)) tz))) D
      [some (.ref a), some (.ref h), some (.ref an), some (.int (pre.length : Nat)), y4, y5, y6, y7] H := by
  have hc : (pre ++ (enc c ++ post))[pre.length]? = some (codeOf c) := by
    rcases call_kind c with ⟨_, k, e, _⟩ | ⟨_, e⟩ | ⟨_, e, _⟩ <;> rw [e] <;> simp
  refine q_asg (ev_int (ev_var rfl) (ev_var (v := .int (pre.length : Nat)) rfl) ha hc) fun H1 e1 => ?_
  refine q_asg (v := .int ((pre.length + 1 : Nat) : Int)) (ev_is (ev_add (ev_var (v := .int (pre.length : Nat)) rfl) ev_c) (by rw [Int.natCast_add] <;> rfl)) fun H2 e2 => ?_
  refine q_asg (v := .int ((pre.length + 1 : Nat) : Int)) (ev_var rfl) fun H3 e3 => ?_
  have e13 := (e1.trans e2).trans e3
  rcases call_kind c with ⟨hk, z, e, hh⟩ | ⟨hk, e⟩ | ⟨hk, e, hh⟩
  · refine q_if (et_or (et_eqI (ev_var rfl) ev_c) fun _ => et_eqI (ev_var rfl) ev_c) (fun _ H4 e4 => ?_) (fun t H4 e4 => ?_)
    · refine s_asg (v := .int ((pre.length + 2 : Nat) : Int)) (ev_is (ev_add (ev_var (v := .int ((pre.length + 1 : Nat) : Int)) rfl) ev_c) (by rw [Int.natCast_add, Int.natCast_add]; congr 1)) fun H5 e5 => ?_
      refine k (pre.length + 1) (pre.length + 2) H5 ((e13.trans e4).trans e5) (by omega) (by rw [e]; simp) ?_
      rw [hh, e, ← List.drop_drop, List.drop_left] <;> simp
    · rw [Bool.or_eq_false_iff, decide_eq_false_iff_not, decide_eq_false_iff_not] at t
      exact (hk.elim t.1 t.2).elim
  · have n57 : codeOf c ≠ 5 ∧ codeOf c ≠ 7 := by rcases hk with z | z <;> rw [z] <;> decide
    refine q_if (et_or (et_eqI (ev_var rfl) ev_c) fun _ => et_eqI (ev_var rfl) ev_c) (fun t H4 e4 => ?_) (fun _ H4 e4 => ?_)
    · rw [Bool.or_eq_true, decide_eq_true_eq, decide_eq_true_eq] at t
      exact (t.elim n57.1 n57.2).elim
    · refine s_if (et_or (et_eqI (ev_var rfl) ev_c) fun _ => et_eqI (ev_var rfl) ev_c) (fun _ H5 e5 => ?_) (fun t H5 e5 => ?_)
      · have e15 := (e13.trans e4).trans e5
        refine q_asg (v := .int ((pre.length + 2 : Nat) : Int)) (ev_is (ev_add (ev_var (v := .int ((pre.length + 1 : Nat) : Int)) rfl) ev_c) (by rw [Int.natCast_add, Int.natCast_add]; congr 1)) fun H6 e6 => ?_
        have hn : (pre ++ (enc c ++ post))[pre.length + 1]? = some ((handedOf c).length : Int) := by rw [e]; exact mid_get1
        refine s_asg (v := .int ((pre.length + 2 + (handedOf c).length : Nat) : Int)) (ev_is (ev_add (ev_var (v := .int ((pre.length + 2 : Nat) : Int)) rfl) (ev_int (i := pre.length + 1) (ev_var rfl) (ev_is (ev_add (ev_var (v := .int (pre.length : Nat)) rfl) ev_c) (by rw [Int.natCast_add] <;> rfl)) (ex_l (e15.trans e6) ha) hn)) (by rw [← Int.natCast_add])) fun H7 e7 => ?_
        refine k (pre.length + 2) (pre.length + 2 + (handedOf c).length) H7 ((e15.trans e6).trans e7) (by omega) (by rw [e]; simp; omega) ?_
        rw [e, Nat.add_sub_cancel_left]
        exact mid_row
      · rw [Bool.or_eq_false_iff, decide_eq_false_iff_not, decide_eq_false_iff_not] at t
        exact (hk.elim t.1 t.2).elim
  · refine q_if (et_or (et_eqI (ev_var rfl) ev_c) fun _ => et_eqI (ev_var rfl) ev_c) (fun t H4 e4 => ?_) (fun _ H4 e4 => ?_)
    · rw [Bool.or_eq_true, decide_eq_true_eq, decide_eq_true_eq] at t
      exact (t.elim hk.1 hk.2.1).elim
    · refine s_if (et_or (et_eqI (ev_var rfl) ev_c) fun _ => et_eqI (ev_var rfl) ev_c) (fun t H5 e5 => ?_) (fun _ H5 e5 => ?_)
      · rw [Bool.or_eq_true, decide_eq_true_eq, decide_eq_true_eq] at t
        exact (t.elim hk.2.2.1 hk.2.2.2).elim
      · refine k (pre.length + 1) (pre.length + 1) H5 ((e13.trans e4).trans e5) (by omega) (by rw [e]; simp) ?_
        rw [hh, Nat.sub_self, List.take_zero]
theorem call3 {sp : Sp} {ta tb tc : TE} {v1 v2 : V} {xs : List V} {Q : VK} (h1 : Ev ta σ F v1) (h2 : Ev tb σ F v2) (h3 : EvL tc σ F xs) (e : Ex F H) (h : ∀ p H1, H p = none → Ex H H1 → H1 p = some (.lst xs) → sp [v1, v2, .ref p] H1 Q E0) : tCall sp [] E0 (tCons ta (tCons tb (tCons tc tNil))) σ H Q :=
  h1 H e _ fun H1 e1 => h2 H1 (e.trans e1) _ fun H2 e2 => h3 H2 ((e.trans e1).trans e2) _ fun p H3 hp e3 hl => h p H3 (fresh_back (e1.trans e2) hp) ((e1.trans e2).trans e3) hl
theorem q_extB {ta te : TE} {D : Ends} {tz : TS} {l b : Addr} {xs ys : List V} (h : H l = some (.lst xs)) (ha : Ev ta σ H (.ref l)) (hb : Ev te σ H (.ref b)) (hy : H b = some (.lst ys)) (hl : xs.length + ys.length ≤ sizeLine) (k : ∀ H1, Ex H H1 → tz D σ (upd H1 l (.lst (xs ++ ys)))) : tSeq (tDrop (tBM K "list" rExtend ta (tCons te tNil))) tz D σ H :=
  s_extB (D := { D with nx := tz D }) h ha hb hy hl k
theorem tab_kept {N N' : Hp} {l : Addr} {q : Str} (k : Kept N N' l) (t : TabS N P q) : TabS N' P q := by
  obtain ⟨ys, hy⟩ := k.was
  obtain ⟨ps, z1, z2, z3⟩ := t
  refine ⟨ps, k.keep _ _ z1 (ne_of z1 hy fun z => nomatch z), z2, fun pos cv hcv => ?_⟩
  obtain ⟨c, c1, c2⟩ := z3 pos cv hcv
  exact ⟨c, c1, k.keep _ _ c2 (ne_of c2 hy fun z => nomatch z)⟩
theorem Kept.put {l : Addr} {ys zs : List V} {N N' : Hp} (h : N l = some (.lst ys)) (e : Ex N N') : Kept N (upd N' l (.lst zs)) l := ⟨⟨_, h⟩, fun b o hb n => by rw [upd_ne n]; exact e _ _ hb⟩
theorem told_app (a b : List (List Int)) : PyFlat.told (a ++ b) = PyFlat.told a ++ PyFlat.told b := List.flatMap_append
def LoopI (K : PySem.W.Frag) (CT CA CH CD P : Addr) (H0 : Hp) (a h an : Addr) (cs : List Pn16.Call) (m : Nat) (σ : L2.St) (H : Hp) : Prop :=
  ∃ (done rest : List Pn16.Call) (B : HouseA) (x : Pn16.Text) (ans : List (List Int)) (y4 y5 y6 y7 : Option V), cs = done ++ rest ∧ rest.length = m ∧ σ = [some (.ref a), some (.ref h), some (.ref an), some (.int ((done.flatMap enc).length : Nat)), y4, y5, y6, y7] ∧
    B.h = h ∧ HouseAt K CT CA CH CD H B x ∧ HouseOk x ∧ H an = some (.lst (intsV (PyFlat.told ans))) ∧ ans ++ run ⟨x⟩ rest = run Pn16.init cs ∧ an ∉ B.lists ∧ ExtN H0 H ∧ TabS H P qLam
abbrev s_answers : Stmt := top 104
theorem sc_answers : FnScope ["calls", "house", "answered", "place", "call", "start", "end", "numbers"] ["calls"] (defScope s_answers) := ⟨rfl, rfl, rfl, by decide +kernel, rfl, by decide +kernel, by decide +kernel⟩
def spAns (K : PySem.W.Frag) (P : Addr) : Sp := fun vs H Q _ => ∃ (a : Addr) (l : List Int), vs = [.ref a] ∧ SqL K H a (l.map V.int) ∧ PyPn16.answers_asked l = true ∧ TabS H P qLam ∧ ∀ H' p, H' p = some (.lst ((PyPn16.answers l).map V.int)) → Q (.ref p) H'
theorem ok_answers {f fh : Addr} {fd fdh : FuncData} (F : Fun K "answers" "answers" s_answers f fd) (O : Own mg) (O3 : Own3 mg) (MK : Mk K CH fh) (FH : FnOk Pr w K mg base CX0 3 fh fdh ["self"] (sp_houseInit K CT CA CH CD)) (BH : Binds K fdh ["self"] []) (gH : mg "House" = some (.ref CH)) (h_answer : Has Pr w K mg base 7 "answer" ["house", "call", "handed"] (sp_answer K CT CA CH CD P)) : FnOk Pr w K mg base CX0 8 f fd ["calls"] (spAns K P) := by
  refine F.ok sc_answers (fun vs H Q E h => ?_) (fun cdv A outer s H vs Q E hr h => ?_)
  · obtain ⟨_, _, rfl, _⟩ := h
    rfl
  · obtain ⟨a, l, rfl, ha, hask, hT, q⟩ := h
    refine ⟨_, (pss_cons (ps_set (i := 1) sc_answers.nd rfl (Or.inl rfl) (pe_make0 MK FH (hr.mono (by decide)) rfl gH BH .nil pass0 ))
      (pss_cons (ps_set (i := 2) sc_answers.nd rfl (Or.inl rfl) (pe_lst pa_nil))
      (pss_cons (ps_set (i := 3) sc_answers.nd rfl (Or.inl rfl) pe_int)
      (pss_cons (ps_while PassesOwn.never (pt_cmpR op_lt (pv 3) (pe_callB call_len_seq (by rfl) O.len (by decide +kernel) (pa_cons (pv 0) pa_nil)) (nomark _)) (pss_cons (ps_set (i := 4) sc_answers.nd rfl (Or.inl rfl) (pe_ix ix_list (pv 0) (pv 3) (fun _ _ => rfl)))
      (pss_cons (ps_set (i := 5) sc_answers.nd rfl (Or.inl rfl) (pe_op op_add (pv 3) pe_int))
      (pss_cons (ps_set (i := 6) sc_answers.nd rfl (Or.inl rfl) (pv 5))
      (pss_cons (ps_if (PW.pt (pw_or (pt_cmpR op_eq (pv 4) (pe_gint O3.act rfl) (nomark _)) (pw_or1 (pt_cmpR op_eq (pv 4) (pe_gint O3.fact rfl) (nomark _))))) (pss_one (ps_set (i := 6) sc_answers.nd rfl (Or.inl rfl) (pe_op op_add (pv 5) pe_int))) (pss_one (ps_if (PW.pt (pw_or (pt_cmpR op_eq (pv 4) (pe_gint O3.read rfl) (nomark _)) (pw_or1 (pt_cmpR op_eq (pv 4) (pe_gint O3.after rfl) (nomark _))))) (pss_cons (ps_set (i := 5) sc_answers.nd rfl (Or.inl rfl) (pe_op op_add (pv 5) pe_int))
      (pss_one (ps_set (i := 6) sc_answers.nd rfl (Or.inl rfl) (pe_op op_add (pv 5) (pe_ix ix_list (pv 0) (pe_op op_add (pv 3) pe_int) (fun _ _ => rfl)))))) pss_nil)))
      (pss_cons (ps_set (i := 7) sc_answers.nd rfl (Or.inl rfl) (pe_own h_answer (hr.mono (by decide)) rfl (pa_cons (pv 1) (pa_cons (pv 4) (pa_cons (pe_slice sl_list (pv 0) (po_some (pv 5)) (po_some (pv 6))) pa_nil)))))
      (pss_cons (ps_expr (pe_bm PySem.F.plainAttrs_list PySem.F.slot_list_append PySem.F.type_list_append mt_append (pv 2) (pa_cons (pe_callB call_len_seq (by rfl) O.len (by decide +kernel) (pa_cons (pv 7) pa_nil)) pa_nil)))
      (pss_cons (ps_expr (pe_bm PySem.F.plainAttrs_list PySem.F.slot_list_extend PySem.F.type_list_extend mt_extend (pv 2) (pa_cons (pv 7) pa_nil)))
      (pss_one (ps_set (i := 3) sc_answers.nd rfl (Or.inl rfl) (pv 6)))))))))))
      (pss_one (ps_ret (pv 2))))))), ?_⟩
    obtain ⟨cs, el, hcs, h60, edue, hbig⟩ := asked_is hask
    have hbig2 : 10000000 < sizeLine := by decide
    -- house = House()
    intro hh dh hhn hdn hne
    refine ⟨hh, dh, rfl, upd_same, fun B0 H1 eB HB fr1 k1 => ⟨rfl, ?_⟩⟩
    have e1 : Ex H H1 := Same.made hhn hdn k1
    have fr0 : ∀ r ∈ B0.lists, H r = none := fun r hr => made_fresh (fr1 r hr)
    -- answered = []
    refine ⟨Nat.zero_le _, fun an han => ?_⟩
    have e2 : Ex H1 (upd H1 an (.lst [])) := Ex.new han
    have hanB : an ∉ B0.lists := fun m => by
      obtain ⟨o, z⟩ := HB.lists_at m
      rw [han] at z
      cases z
    have hanH : H an = none := fresh_back e1 han
    show tSeq (tAsg (tC (.int 0)) (gName 3)) _ _ [some (.ref a), some (.ref hh), some (.ref an), none, none, none, none, none] _
    refine q_asg (v := .int 0) ev_c fun H2 e2' => ?_
    replace e2 := e2.trans e2'
    have an2 := e2' _ _ (upd_same (H := H1) (a := an) (o := .lst []))
    refine q_while (LoopI K CT CA CH CD P H a hh an cs) cs.length ?_ ?_
    · exact ⟨[], cs, B0, Pn16.blank, [], none, none, none, none, rfl, rfl, rfl, eB, HB.mono e2, blank_ok, an2, rfl, hanB, ExtN.of (e1.trans e2), hT.ext (e1.trans e2)⟩
    · rintro m σ' H' ⟨done, rest, B, x, ans, y4, y5, y6, y7, ecs, em, rfl, eh, hB, hx, hans, hrun, hnB, hext, hT'⟩
      have ha' : SqL K H' a (intsV l) := xn_sqL hext ha
      have hlen : l.length = (done.flatMap enc).length + (rest.flatMap enc).length := by rw [el, ecs, List.flatMap_append, List.length_append]
      have hll : (intsV l).length = l.length := List.length_map ..
      refine ⟨decide ((((done.flatMap enc).length : Nat) : Int) < ((intsV l).length : Nat)), et_cmpI (ev_var rfl) (ev_len (K := K) (ev_var rfl) ha'), fun t H2 e2 => ?_, fun t H2 e2 => ?_⟩
      · rw [decide_eq_true_eq, hll, hlen] at t
        cases rest with
        | nil =>
          simp at t
        | cons c r =>
          refine ⟨fun σ2 H3 => ∃ m', m' < m ∧ LoopI K CT CA CH CD P H a hh an cs m' σ2 H3, fun _ _ z => z, ?_⟩
          have hl2 : l = done.flatMap enc ++ (enc c ++ r.flatMap enc) := by rw [el, ecs, List.flatMap_append, List.flatMap_cons]
          have ha2 : SqL K H2 a (intsV (done.flatMap enc ++ (enc c ++ r.flatMap enc))) := by rw [← hl2]; exact ex_l e2 ha'
          have hcok : CallOk c := hcs c (by rw [ecs]; simp)
          refine q_span ha2 fun st en H3 e3 hse hen hcut => ?_
          have e23 := e2.trans e3
          refine q_asgQ (call3 (v1 := .ref hh) (v2 := .int (codeOf c)) (xs := intsV (handedOf c)) (ev_var rfl) (ev_var rfl) ?_ (Ex.refl H3) fun p H4 hp e4 h4 => ?_)
          · have hz := el_cut (K := K) (σ := [some (.ref a), some (.ref hh), some (.ref an), some (.int ((done.flatMap enc).length : Nat)), some (.int (codeOf c)), some (.int (st : Nat)), some (.int (en : Nat)), y7]) (F := H3) (ta := tVar 0) (tl := tVar 5) (th := tVar 6) (ev_var rfl) (ev_var rfl) (ev_var rfl) (ex_l e3 ha2) hse (by rw [List.length_map, hen]; simp)
            rw [← hcut]
            unfold intsV
            rw [List.map_take, List.map_drop]
            exact hz
          · have e24 := e23.trans e4
            have hB4 := hB.mono e24
            refine ⟨B, x, c, p, by rw [eh], hB4, hx, hcok, sq_of h4, hT'.ext e24, fun B' nl H5 eh' hB' hx' hls hnl hk hT5 h5 => ?_⟩
            have an4 := e24 _ _ hans
            have hne : an ≠ B.h := ne_of an4 hB4.ins fun z => nomatch z
            have an5 := hk _ _ an4 hne fun _ z => nomatch z
            have hnB' : an ∉ B'.lists := fun mm => by
              rcases hls an mm with z | z
              · exact hnB z
              · rw [an4] at z
                cases z
            have hnn : nl ≠ an := fun z => by
              rw [z, an4] at hnl
              cases hnl
            have hrun2 : (ans ++ [Pn16Neutral.out (Pn16.step ⟨x⟩ c).2]) ++ run (Pn16.step ⟨x⟩ c).1 r = run Pn16.init cs := by
              rw [← hrun, List.append_assoc] <;> rfl
            have hsz : (PyFlat.told ans).length + (1 + (Pn16Neutral.out (Pn16.step ⟨x⟩ c).2).length) ≤ 10000000 := by
              have z := hbig
              rw [← hrun2, told_app, told_app, List.length_append, List.length_append] at z
              have : (PyFlat.told [Pn16Neutral.out (Pn16.step ⟨x⟩ c).2]).length = 1 + (Pn16Neutral.out (Pn16.step ⟨x⟩ c).2).length := by
                unfold PyFlat.told
                simp
                omega
              omega
            have hext5 : ExtN H H5 := fun b o hb n => hk b o (e24 _ _ (hext b o hb n)) (fun z => by rw [z, eh, hhn] at hb; cases hb) n
            show tSeq _ _ _ [some (.ref a), some (.ref hh), some (.ref an), some (.int ((done.flatMap enc).length : Nat)), some (.int (codeOf c)), some (.int (st : Nat)), some (.int (en : Nat)), some (.ref nl)] H5
            refine q_appB (K := K) an5 (ev_var rfl) (ev_len (K := K) (ev_var rfl) (sq_of h5)) (by rw [List.length_map]; omega) fun H6 e6 => ?_
            have k6 := Kept.put (zs := intsV (PyFlat.told ans) ++ [.int ((intsV (Pn16Neutral.out (Pn16.step ⟨x⟩ c).2)).length : Nat)]) an5 e6
            have an6 : upd H6 an (.lst (intsV (PyFlat.told ans) ++ [.int ((intsV (Pn16Neutral.out (Pn16.step ⟨x⟩ c).2)).length : Nat)])) an = some (.lst (intsV (PyFlat.told ans) ++ [.int ((intsV (Pn16Neutral.out (Pn16.step ⟨x⟩ c).2)).length : Nat)])) := upd_same
            generalize upd H6 an (.lst (intsV (PyFlat.told ans) ++ [.int ((intsV (Pn16Neutral.out (Pn16.step ⟨x⟩ c).2)).length : Nat)])) = H7 at k6 an6
            refine q_extB (K := K) an6 (ev_var rfl) (ev_var rfl) (k6.lst h5 hnn) (by rw [List.length_append, List.length_map, List.length_map, List.length_singleton]; omega) fun H8 e8 => ?_
            have k8 := Kept.put (zs := (intsV (PyFlat.told ans) ++ [.int ((intsV (Pn16Neutral.out (Pn16.step ⟨x⟩ c).2)).length : Nat)]) ++ intsV (Pn16Neutral.out (Pn16.step ⟨x⟩ c).2)) an6 e8
            have an8 : upd H8 an (.lst ((intsV (PyFlat.told ans) ++ [.int ((intsV (Pn16Neutral.out (Pn16.step ⟨x⟩ c).2)).length : Nat)]) ++ intsV (Pn16Neutral.out (Pn16.step ⟨x⟩ c).2))) an = some (.lst ((intsV (PyFlat.told ans) ++ [.int ((intsV (Pn16Neutral.out (Pn16.step ⟨x⟩ c).2)).length : Nat)]) ++ intsV (Pn16Neutral.out (Pn16.step ⟨x⟩ c).2))) := upd_same
            generalize upd H8 an (.lst ((intsV (PyFlat.told ans) ++ [.int ((intsV (Pn16Neutral.out (Pn16.step ⟨x⟩ c).2)).length : Nat)]) ++ intsV (Pn16Neutral.out (Pn16.step ⟨x⟩ c).2))) = H9 at k8 an8
            refine s_asg (v := .int (en : Nat)) (ev_var rfl) fun H10 e10 => ?_
            refine ⟨r.length, by rw [← em]; simp, done ++ [c], r, B', (Pn16.step ⟨x⟩ c).1.text, ans ++ [Pn16Neutral.out (Pn16.step ⟨x⟩ c).2], some (.int (codeOf c)), some (.int (st : Nat)), some (.int (en : Nat)), some (.ref nl), by rw [ecs]; simp, rfl, ?_, eh'.trans eh, ?_, hx', ?_, hrun2, hnB', ?_, ?_⟩
            · rw [List.flatMap_append, List.flatMap_cons, List.flatMap_nil, List.append_nil, ← hen]
              rfl
            · exact (k8.house (k6.house hB' hnB') hnB').mono e10
            · rw [e10 _ _ an8, told_app]
              unfold PyFlat.told intsV
              simp
            · intro b o hb n
              have hb5 := hext5 b o hb n
              have nb : b ≠ an := fun z => by rw [z, hanH] at hb; cases hb
              exact e10 _ _ (k8.keep b o (k6.keep b o hb5 nb) nb)
            · exact (tab_kept k8 (tab_kept k6 hT5)).ext e10
      · rw [decide_eq_false_iff_not, hll, hlen] at t
        cases rest with
        | cons c r =>
          have := enc_pos c
          rw [List.flatMap_cons, List.length_append] at t
          omega
        | nil =>
          refine s_ret (ev_var rfl) fun H3 e3 => q H3 an ?_
          have z : ans = run Pn16.init cs := by
            rw [← hrun]
            exact (List.append_nil _).symm
          rw [edue, ← z]
          exact (e2.trans e3) _ _ hans
end
end KP
set_option Elab.async false
set_option linter.all false
set_option maxRecDepth 100000
set_option maxHeartbeats 2000000
/-! The end of this row: a call from outside, where one def makes a lambda and so has a table. -/
namespace KP
open PySem PySem.Spec PyProof.Rows L2 LamX
open PySem.W (WData WellAll ReadsW)
section
variable {Pr : Program} {w : World} {K : PySem.W.Frag} {mg mb : Str → Option Value} {k : Nat} {fa c T : Addr} {fd : FuncData} {ps : List Str} {sp : Sp} {s0 : Shared} {vals : List Value} {ds : List WData} {R : PySem.W.WRecords} {cl : Str → Option Addr} {d0 : WData}
theorem call_tab (hK : K.In s0.heap) (hG : s0.heap.Ns mainGlobals mg) (hB : s0.heap.Ns builtinsNs mb) (hBb : ∀ x : Str, x ≠ "__name__" → mb x = bootBuiltins x) (hL : s0.heap.NoLimit) (hgen : s0.gens = #[])
    (hbm : ∃ (bm : Addr) (ob : Obj), mg "__builtins__" = some (.ref bm) ∧ bm ≠ builtinsNs ∧ s0.heap.get? bm = some ob ∧ ob.cls = .type "module" ∧ ob.dict = some builtinsNs ∧ ob.data = .plain)
    (hT : s0.heap.get? T = some { cls := .none, data := .fields #[] }) (nT : K.lookup T = none) (C : PySem.W.CodeHd s0.heap c T)
    (hw : WellAll w.params s0.heap vals ds) (hp : plWs ds = true) (hwt : ∀ d ∈ ds, d.weight ≤ 1048576) (hr : Room k callerA)
    (FF : ∀ base : Heap, K.In base → base.Ns mainGlobals mg → TabB base mg c T → FnOk Pr w K mg base CX0 k fa fd ps sp) (hbind : ∀ (s : Shared) (us : List Value), us.length = ps.length → BindsTo s fd ⟨us, []⟩ (ps.zip us)) (hlen : ds.length = ps.length)
    (hsp : ∀ (H0 H : Hp) (xs : List V), Same H0 H → H T = some (.tbl #[]) → DwAll K H0 xs ds → sp xs H (fun v H' => Dw K H' v d0) fun _ _ _ => False) :
    codeAny (model Pr w) callerA (.call (.ref fa) ⟨vals, []⟩) (fun r s' => ∃ u as, r = .ok (.ret u) ∧ ReadsW R cl s'.heap u d0 as ∧ OldK s0.heap s'.heap ∧ s'.os = s0.os ∧ AllBare s'.gens) s0 := by
  obtain ⟨A, hu, ar⟩ := area_all ds vals hw hp hwt
  have only := argH_only (K := K) ar
  have okA : HOk Pr w (argH K s0.heap A) s0.heap := argH_ok ar
  have hS := dw_all hK ar ds vals hw hp hu
  have isA : ∀ {b : Addr} {u : HO}, argH K s0.heap A b = some u → K.lookup b = none ∧ ∃ (o : Obj) (us : Array Value) (n : Nat), s0.heap.get? b = some o ∧ o.data = .seq us n := fun {b u} q => by
    obtain ⟨z, us, _, _, ⟨y, _⟩ | ⟨y, _⟩⟩ := argH_is ar q
    · exact ⟨z, _, _, _, y, rfl⟩
    · exact ⟨z, _, _, _, y, rfl⟩
  have frA : ∀ {b : Addr} {u : HO}, argH K s0.heap A b = some u → (∃ o xs, u = .frz o (.lst xs)) ∨ ∃ o xs, u = .frz o (.tup xs) := fun {b u} q => by
    obtain ⟨_, us, _, _, ⟨_, y⟩ | ⟨_, y⟩⟩ := argH_is ar q
    · exact .inl ⟨_, _, y⟩
    · exact .inr ⟨_, _, y⟩
  have AT : argH K s0.heap A T = none := by
    cases q : argH K s0.heap A T with
    | none => rfl
    | some u =>
      obtain ⟨_, o, us, n, y, z⟩ := isA q
      rw [hT] at y
      have y' := Option.some.inj y
      subst y'
      cases z
  generalize argH K s0.heap A = H0 at only okA hS isA frA AT
  -- the heap that is told of: the arguments and the table
  have at_ : ∀ b, b ≠ T → upd H0 T (.tbl #[]) b = H0 b := fun b n => upd_ne n
  have atT : upd H0 T (.tbl #[]) T = some (.tbl #[]) := upd_same
  have same : Same H0 (upd H0 T (.tbl #[])) := fun b o e => (at_ b (fun z => by rw [z, AT] at e; cases e)).trans e
  generalize upd H0 T (.tbl #[]) = H at at_ atT same
  have okH : HOk Pr w H s0.heap := fun b u q => by
    by_cases hb : b = T
    · subst hb
      rw [atT] at q
      cases q
      exact hT
    · have q0 := q
      rw [at_ b hb] at q0
      have z := okA b u q0
      rcases frA q0 with ⟨o, xs, rfl⟩ | ⟨o, xs, rfl⟩
      · exact z
      · exact z
  have noD : ∀ {b : Addr} {o : Obj}, s0.heap.get? b = some o → (∀ us n, o.data ≠ .seq us n) → o.data ≠ .fields #[] → H b = none := fun {b o} e n1 n2 => by
    have hb : b ≠ T := fun z => by
      rw [z, hT] at e
      have e' := Option.some.inj e
      subst e'
      exact n2 rfl
    rw [at_ b hb]
    cases q : H0 b with
    | none => rfl
    | some u =>
      obtain ⟨_, o', us, n, y, z⟩ := isA q
      rw [e] at y
      cases y
      exact (n1 _ _ z).elim
  have inB : ∀ {b : Addr} {o : Obj}, s0.heap.get? b = some o → (∀ us n, o.data ≠ .seq us n) → o.data ≠ .fields #[] → (hidT s0.heap H).get? b = some o := fun e n1 n2 => hidT_get e (noD e n1 n2)
  have ns : ∀ {b : Addr} {m : Str → Option Value}, s0.heap.Ns b m → (hidT s0.heap H).Ns b m := fun {b m} z => by
    obtain ⟨o, es, ep, e, d, y⟩ := z
    refine ⟨o, es, ep, inB e (fun us n z => ?_) (fun z => ?_), d, y⟩
    · rw [d] at z; cases z
    · rw [d] at z; cases z
  have kb : K.In (hidT s0.heap H) := fun b o e => hidT_get (hK b o e) (by
    have hb : b ≠ T := fun z => by rw [z, nT] at e; cases e
    rw [at_ b hb]
    cases q : H0 b with
    | none => rfl
    | some u =>
      rw [(isA q).1] at e
      cases e)
  have md : Mod K mg (hidT s0.heap H) := ⟨kb, ns hG, ⟨mb, ns hB, hBb⟩, hL.elim fun mc z => ⟨mc, ns z.1, z.2⟩⟩
  have TB : TabB (hidT s0.heap H) mg c T := by
    refine ⟨?_, ?_, fun z => ?_⟩
    · obtain ⟨o, us, f1, t1, f2, t2, f3, t3, t4, e1, r1, r2, r3, rr⟩ := C
      refine ⟨o, us, f1, t1, f2, t2, f3, t3, t4, inB e1 (fun us n z => ?_) (fun z => ?_), r1, r2, r3, rr⟩
      · rw [r2] at z; cases z
      · rw [r2] at z
        cases z
        simp at r3
    · obtain ⟨bm, ob, b1, b2, b3, b4, b5, b6⟩ := hbm
      refine ⟨bm, ob, b1, b2, fun z => ?_, fun z => ?_, inB b3 (fun us n z => ?_) (fun z => ?_), b4, b5, b6⟩
      · obtain ⟨o, es, ep, e, d, _⟩ := hG
        rw [z, e] at b3
        cases b3
        rw [d] at b6
        cases b6
      · rw [z, hT] at b3
        cases b3
        cases b6
      · rw [b6] at z; cases z
      · rw [b6] at z; cases z
    · obtain ⟨o, es, ep, e, d, _⟩ := hG
      rw [z, hT] at e
      cases e
      cases d
  have en : Env0 Pr w K mg (hidT s0.heap H) callerA [] s0 H := ⟨rfl, md, fun _ _ e => of_hidT e, Nat.le_of_eq (hidT_size _ _), trivial, fun b hb => absurd (show b ∈ ([] : List Addr) from hb) (by simp), okH, .of_eq hgen⟩
  refine codeAny_mono ((FF _ kb (ns hG) TB).run callerA [] s0 H ⟨vals, []⟩ vals (vals.map toV) _ _ hr en (hbind s0 vals ((wellAll_len hw).trans hlen)) (vals_toV hu) (hsp H0 H _ same atT hS)) fun r s' z => ?_
  match r, z with
  | .error e, z => exact False.elim z
  | .ok .next, z => exact False.elim z
  | .ok .brk, z => exact False.elim z
  | .ok .cont, z => exact False.elim z
  | .ok (.ret u), z =>
    obtain ⟨v, H', os, bare, un, ok', rel, q⟩ := z
    have stay : ∀ b o, b ≠ T → s0.heap.get? b = some o → s'.heap.get? b = some o := fun b o hb e => by
      cases q2 : H b with
      | none => exact un.keep b o e q2 (fun z => absurd (show b ∈ ([] : List Addr) from z) (by simp)) (by simp)
      | some u2 =>
        have q3 := q2
        rw [at_ b hb] at q3
        rcases only b with y | ⟨ob, u3, y⟩
        · rw [q3] at y
          cases y
        · have y2 := un.frzs b ob _ ((at_ b hb).trans y)
          obtain ⟨e1, _⟩ := okA b _ y
          obtain ⟨e2, _⟩ := ok' b _ y2
          rw [e] at e1
          cases e1
          exact e2
    obtain ⟨more, hm⟩ := un.tbls T #[] atT
    have hm' := ok' T _ hm
    have hK' : K.In s'.heap := fun b o e => stay b o (fun z => by rw [z, nT] at e; cases e) (hK b o e)
    obtain ⟨as, rd⟩ := Dw.reads (R := R) (cl := cl) ok' hK' d0 v u q rel
    refine ⟨u, as, rfl, rd, ⟨fun b o e => ?_, fun b o e => ?_⟩, os, bare⟩
    · by_cases hb : b = T
      · subst hb
        rw [hT] at e
        cases e
        exact .inr (.inl ⟨(C.tab hT).isCodeTable, rfl, #[], more, rfl, hm'⟩)
      · exact .inl (stay b o hb e)
    · by_cases hb : b = T
      · rw [hb]
        exact ⟨_, hm'⟩
      · exact ⟨o, stay b o hb e⟩
end
open PySem.W (OpenSpec Codec)
theorem walk_tab {r : OpenSpec} {k : Nat} {q : Program} {loose : List Str} {XP : (Str → Option Value) → Heap → Prop} {YP : World → Heap → Prop} {d e : DefRec} {K : Params → PySem.W.Frag} {ps : List Str} {c T : Addr} {x : Str} {sp : PySem.W.Frag → Sp}
    (hwell : r.wellSaid = true) (hdf : d.params.defaults = []) (hlen : r.args.length = ps.length) (hr : Room k callerA) (hY : ∀ (w : World) (h : Heap), YP w h → (K w.params).In h)
    (hrec : (recsOf q).find? (fun e => e.name == x) = some e) (htab : ∀ p, PySem.W.tabIn (K p) x = some (c, T)) (hno : ∀ p, (K p).lookup T = none)
    (FF : ∀ (w : World) (mg : Str → Option Value) (fa : Addr) (h : Heap), YP w h → (K w.params).In h → h.Ns mainGlobals mg → mg d.name = some (.ref fa) → ∃ fd : FuncData, (∀ (s : Shared) (us : List Value), us.length = ps.length → BindsTo s fd ⟨us, []⟩ (ps.zip us)) ∧ ∀ base : Heap, (K w.params).In base → base.Ns mainGlobals mg → TabB base mg c T → FnOk r.prog w (K w.params) mg base CX0 k fa fd ps (sp (K w.params)))
    (hsp : ∀ (K : PySem.W.Frag) (H0 H : Hp) (xs : List V) (a : Codec.denoteAll r.args), Same H0 H → H T = some (.tbl #[]) → Codec.app r.args r.asked a = true → DwAll K H0 xs (Codec.encAll r.args a) → sp K xs H (fun v H' => Dw K H' v (r.ret.enc (Codec.app r.args r.f a))) fun _ _ _ => False) :
    PySem.W.WalkOS q loose XP YP r d [] (fun g us => PySem.call g us) := by
  intro w s₀ s₁ mg mb G Y fa o pm cd dc dV kV ho hd hcd hD hmg hg args vals bs hpre hlay hrd hwl hlo
  obtain ⟨a, dec, ask⟩ := PySem.W.os_pre_some hpre
  obtain ⟨ea, inn⟩ := Codec.encAll_of_decAll r.args args a dec
  subst ea
  have kx := hY w _ Y
  obtain ⟨fd, bnd, ok⟩ := FF w mg fa _ Y kx G.T.g hmg
  obtain ⟨hc, ht⟩ := PySem.W.tab_of G.T kx hrec (htab w.params)
  have main := call_tab (R := []) (cl := classAt s₀.heap) (d0 := r.ret.enc (Codec.app r.args r.f a)) kx G.T.g G.T.b G.T.builtins G.T.nolimit hg G.T.bmain ht (hno w.params) hc hwl (pl_encAll _ _) (layable_weight hlay) hr ok bnd ((encAll_len _ _).trans hlen) fun H0 H xs same hT hS => hsp _ H0 H xs a same hT ask hS
  refine PySem.W.enter_call (codeAny_mono main fun r' s' z => ?_)
  obtain ⟨u, as', rfl, z1, z2, z3, z4⟩ := z
  refine ⟨.inl ⟨u, _, as', rfl, fun _ => rfl, z1, ?_, fun z => Bool.noConfusion (show false = true from z)⟩, z2, z3, z4⟩
  exact (OpenSpec.post_iff hwell inn _ _).mpr rfl
end KP
set_option Elab.async false
set_option linter.all false
set_option maxRecDepth 100000
set_option maxHeartbeats 800000
/-! The program's tables, from what the top has written. -/
namespace KP
open PySem PySem.Spec PyProof.Rows L2 Evl
def keyNames : List DictEntry → Option (List Str)
  | [] => some []
  | e :: r => match e.key, keyNames r with
    | .str s _, some l => some (s :: l)
    | _, _ => none
theorem keys_no : ∀ {es : List DictEntry} {ks : List Str} {x : Str}, keyNames es = some ks → x ∉ ks → es.find? (fun e => e.key.isStr x) = none ∧ (es.any fun e => e.refKey) = false
  | [], ks, x, _, _ => ⟨rfl, rfl⟩
  | e :: r, ks, x, h, hx => by
    unfold keyNames at h
    split at h
    · rename_i s t l hk hr
      have e1 := Option.some.inj h
      subst e1
      obtain ⟨i1, i2⟩ := keys_no (x := x) hr (fun m => hx (List.mem_cons_of_mem _ m))
      have hs : e.key.isStr x = false := by
        rw [hk]
        show (s == x) = false
        cases hb : (s == x) with
        | false => rfl
        | true => exact absurd (by rw [eq_of_beq hb]; exact List.mem_cons_self ..) hx
      have hf : e.refKey = false := by
        unfold DictEntry.refKey
        rw [hk]
      refine ⟨?_, ?_⟩
      · rw [List.find?_cons_of_neg (by rw [hs]; exact Bool.false_ne_true)]
        exact i1
      · rw [List.any_cons, hf, i2]
        rfl
    · cases h
theorem ns_no {K : PySem.W.Frag} {d : Addr} {es : Array DictEntry} {n : Nat} {ks : List Str} {x : Str} (l : K.lookup d = some ⟨.type "dict", none, .dict es n, #[]⟩) (k : keyNames es.toList = some ks) (h : x ∉ ks) : PySem.W.nsIn K d x = some none := by
  obtain ⟨i1, i2⟩ := keys_no k h
  unfold PySem.W.nsIn
  rw [l]
  simp only [i1, i2]
  rfl
/-- a tuple that the top has written -/
structure TupK (K : PySem.W.Frag) (a : Addr) (xs : List V) : Prop where
  ex : ∃ q u m w, K.lookup a = some ⟨.type "tuple", q, .seq u m, w⟩ ∧ u.size ≤ sizeLine ∧ Vals xs u.toList
theorem TupK.at {K : PySem.W.Frag} {a : Addr} {xs : List V} (h : TupK K a xs) (H : Hp) : SqT K H a xs := by
  obtain ⟨q, u, m, w, h1, h2, h3⟩ := h.ex
  exact .inr ⟨_, u, m, h1, rfl, rfl, h2, h3⟩
def tens : List (List Nat) := [kKind, kThing, kFact, kAct, kNeeds, kBars, kBrings, kTakes, kNow, kWant]
theorem counts_ten {f : List Nat} : (countsOf f).isSome = true ↔ f ∈ tens := by
  constructor
  · intro h
    unfold countsOf at h
    unfold tens
    simp only [List.mem_cons, List.not_mem_nil, or_false]
    split at h
    · exact .inl (by assumption)
    split at h
    · exact .inr (.inl (by assumption))
    split at h
    · exact .inr (.inr (.inl (by assumption)))
    split at h
    · exact .inr (.inr (.inr (.inl (by assumption))))
    split at h
    · rename_i h'
      exact .inr (.inr (.inr (.inr h')))
    · cases h
  · intro h
    unfold tens at h
    simp only [List.mem_cons, List.not_mem_nil, or_false] at h
    rcases h with h | h | h | h | h | h | h | h | h | h <;> subst h <;> decide
theorem txt_name : ("name" : Str) = S rName := by decide +kernel
theorem txt_place : ("place" : Str) = S rPlace := by decide +kernel
/-- the tables, row by row -/
structure Raws (K : PySem.W.Frag) (w : World) (dR dC dM : Addr) (esR esC esM : Array DictEntry) (nR nC nM : Nat) (r c : Nat → Addr) : Prop where
  lR : K.lookup dR = some ⟨.type "dict", none, .dict esR nR, #[]⟩
  kR : PySem.W.KeysLit w.params esR.toList
  lC : K.lookup dC = some ⟨.type "dict", none, .dict esC nC, #[]⟩
  kC : PySem.W.KeysLit w.params esC.toList
  nC : keyNames esC.toList = some (["kind", "thing", "fact", "act", "needs", "bars", "brings", "takes", "now", "want"] : List Str)
  loC : (dC == sysModules) = false
  lM : K.lookup dM = some ⟨.type "dict", none, .dict esM nM, #[]⟩
  kM : PySem.W.KeysLit w.params esM.toList
  rows : ∀ (i : Nat) (f : List Nat), tens[i]? = some f → PySem.W.nsIn K dR (S f) = some (some (.ref (r i))) ∧ TupK K (r i) (txts (rolesOf f))
  cnts : ∀ (i : Nat) (f : List Nat), tens[i]? = some f → PySem.W.nsIn K dC (S f) = some (some (.ref (c i))) ∧ TupK K (c i) (((countsOf f).getD []).map fun n : Nat => V.int (n : Int))
  most : ∀ (i : Nat) (f : List Nat), tens[i]? = some f → ∃ t, PySem.W.nsIn K dM (S f) = some (some (.int (mostOf f : Nat) t))
theorem ten_names : (["kind", "thing", "fact", "act", "needs", "bars", "brings", "takes", "now", "want"] : List Str) = tens.map S := by
  unfold tens
  simp only [List.map_cons, List.map_nil]
  rw [← key_kind, ← key_thing, ← key_fact, ← key_act, ← key_needs, ← key_bars, ← key_brings, ← key_takes, ← key_now, ← key_want]
theorem tabs_of {K : PySem.W.Frag} {w : World} {mg : Str → Option Value} {dR dC dM tO : Addr} {esR esC esM : Array DictEntry} {nR nC nM : Nat} {r c : Nat → Addr} (R : Raws K w dR dC dM esR esC esM nR nC nM r c) (gR : mg "ROLES" = some (.ref dR)) (gC : mg "WORD_COUNTS" = some (.ref dC)) (gM : mg "MOST" = some (.ref dM)) (gO : mg "OF_AN_ACT" = some (.ref tO)) (noF : ∃ t, mg "NO_FAULT" = some (.int 0 t)) (o : TupK K tO (txts [kNeeds, kBars, kBrings, kTakes])) : Tabs K w mg dR dC dM tO := by
  have at_ : ∀ {f}, (countsOf f).isSome = true → ∃ i : Nat, tens[i]? = some f := fun h => List.mem_iff_getElem?.mp (counts_ten.mp h)
  refine ⟨gR, gC, gM, gO, noF, fun f hf => ?_, ⟨esC, nC, R.lC, R.kC, R.loC⟩, fun f => ?_, fun f l hl => ?_, fun f hf => ?_, fun H => o.at H⟩
  · obtain ⟨i, hi⟩ := at_ hf
    obtain ⟨h1, h2⟩ := R.rows i f hi
    exact ⟨r i, ⟨esR, nR, _, R.lR, R.kR, h1, rfl⟩, fun H => h2.at H⟩
  · cases hs : (countsOf f).isSome with
    | true =>
      obtain ⟨i, hi⟩ := at_ hs
      exact ⟨_, (R.cnts i f hi).1, rfl⟩
    | false =>
      refine ⟨none, ns_no R.lC R.nC fun m => ?_, rfl⟩
      rw [ten_names] at m
      obtain ⟨g, hg, e⟩ := List.mem_map.mp m
      have e' := S_inj e
      subst e'
      rw [counts_ten.mpr hg] at hs
      cases hs
  · obtain ⟨i, hi⟩ := at_ (f := f) (by rw [hl]; rfl)
    obtain ⟨h1, h2⟩ := R.cnts i f hi
    rw [hl] at h2
    exact ⟨c i, ⟨esC, nC, _, R.lC, R.kC, h1, rfl⟩, fun H => h2.at H⟩
  · obtain ⟨i, hi⟩ := at_ hf
    obtain ⟨t, h1⟩ := R.most i f hi
    exact ⟨esM, nM, _, R.lM, R.kM, h1, t, rfl⟩
end KP
set_option Elab.async false
set_option linter.all false
set_option maxRecDepth 100000
set_option maxHeartbeats 800000
namespace KP
open PySem PySem.Spec PyProof.Rows L2 Evl
theorem all_mk {Pr : Program} {w : World} {K : PySem.W.Frag} {h : Heap} {mg : Str → Option Value} {fa c0 T : Addr} {CA f_actInit CT f_textInit CD f_deedInit CH f_houseInit f_all_facts f_all_acts f_all_cases f_rows_of f_longer_rows f_things_of f_thing_names f_fact_set f_case_of f_tell f_claims_of f_last_places f_all_deeds f_deed_of f_filled f_may_be_done f_has_all f_so_behind f_so_behind_all f_cut_lines f_has_wrong_signs f_sign_of f_cut_words f_is_name f_is_cost f_line_bytes f_lowest_fault f_is_no_line f_has_wrong_word f_takes_a_name_again f_is_place_of_an_act f_has_wrong_places f_names_what_is_not_there f_is_there f_has_other_kinds f_kind_of f_count_told f_one_form f_form_lines f_act_lines f_claim_lines f_cheapest_plan f_lowest_step f_is_cheapest_step f_rest_costs f_costs_at_the_end f_cheapest_waiting f_ways_into f_read_answer f_move_in f_take_line f_whole_fault f_print_answer f_facts_answer f_acts_answer f_cases_answer f_task_answer f_act_answer f_plan_answer f_fact_answer f_after_answer f_answers f_answer d_ROLES p_ROLES_kind p_ROLES_thing p_ROLES_fact p_ROLES_act p_ROLES_needs p_ROLES_bars p_ROLES_brings p_ROLES_takes p_ROLES_now p_ROLES_want d_WORD_COUNTS p_WORD_COUNTS_kind p_WORD_COUNTS_thing p_WORD_COUNTS_fact p_WORD_COUNTS_act p_WORD_COUNTS_needs p_WORD_COUNTS_bars p_WORD_COUNTS_brings p_WORD_COUNTS_takes p_WORD_COUNTS_now p_WORD_COUNTS_want d_MOST p_OF : Addr} {od_actInit an_actInit od_textInit an_textInit od_deedInit an_deedInit od_houseInit an_houseInit od_all_facts an_all_facts od_all_acts an_all_acts od_all_cases an_all_cases od_rows_of an_rows_of od_longer_rows an_longer_rows od_things_of an_things_of od_thing_names an_thing_names od_fact_set an_fact_set od_case_of an_case_of od_tell an_tell od_claims_of an_claims_of od_last_places an_last_places od_all_deeds an_all_deeds od_deed_of an_deed_of od_filled an_filled od_may_be_done an_may_be_done od_has_all an_has_all od_so_behind an_so_behind od_so_behind_all an_so_behind_all od_cut_lines an_cut_lines od_has_wrong_signs an_has_wrong_signs od_sign_of an_sign_of od_cut_words an_cut_words od_is_name an_is_name od_is_cost an_is_cost od_line_bytes an_line_bytes od_lowest_fault an_lowest_fault od_is_no_line an_is_no_line od_has_wrong_word an_has_wrong_word od_takes_a_name_again an_takes_a_name_again od_is_place_of_an_act an_is_place_of_an_act od_has_wrong_places an_has_wrong_places od_names_what_is_not_there an_names_what_is_not_there od_is_there an_is_there od_has_other_kinds an_has_other_kinds od_kind_of an_kind_of od_count_told an_count_told od_one_form an_one_form od_form_lines an_form_lines od_act_lines an_act_lines od_claim_lines an_claim_lines od_cheapest_plan an_cheapest_plan od_lowest_step an_lowest_step od_is_cheapest_step an_is_cheapest_step od_rest_costs an_rest_costs od_costs_at_the_end an_costs_at_the_end od_cheapest_waiting an_cheapest_waiting od_ways_into an_ways_into od_read_answer an_read_answer od_move_in an_move_in od_take_line an_take_line od_whole_fault an_whole_fault od_print_answer an_print_answer od_facts_answer an_facts_answer od_acts_answer an_acts_answer od_cases_answer an_cases_answer od_task_answer an_task_answer od_act_answer an_act_answer od_plan_answer an_plan_answer od_fact_answer an_fact_answer od_after_answer an_after_answer od_answers an_answers od_answer an_answer q_ROLES_kind q_ROLES_thing q_ROLES_fact q_ROLES_act q_ROLES_needs q_ROLES_bars q_ROLES_brings q_ROLES_takes q_ROLES_now q_ROLES_want q_WORD_COUNTS_kind q_WORD_COUNTS_thing q_WORD_COUNTS_fact q_WORD_COUNTS_act q_WORD_COUNTS_needs q_WORD_COUNTS_bars q_WORD_COUNTS_brings q_WORD_COUNTS_takes q_WORD_COUNTS_now q_WORD_COUNTS_want q_OF : Option Addr} {sl_actInit sl_textInit sl_deedInit sl_houseInit sl_all_facts sl_all_acts sl_all_cases sl_rows_of sl_longer_rows sl_things_of sl_thing_names sl_fact_set sl_case_of sl_tell sl_claims_of sl_last_places sl_all_deeds sl_deed_of sl_filled sl_may_be_done sl_has_all sl_so_behind sl_so_behind_all sl_cut_lines sl_has_wrong_signs sl_sign_of sl_cut_words sl_is_name sl_is_cost sl_line_bytes sl_lowest_fault sl_is_no_line sl_has_wrong_word sl_takes_a_name_again sl_is_place_of_an_act sl_has_wrong_places sl_names_what_is_not_there sl_is_there sl_has_other_kinds sl_kind_of sl_count_told sl_one_form sl_form_lines sl_act_lines sl_claim_lines sl_cheapest_plan sl_lowest_step sl_is_cheapest_step sl_rest_costs sl_costs_at_the_end sl_cheapest_waiting sl_ways_into sl_read_answer sl_move_in sl_take_line sl_whole_fault sl_print_answer sl_facts_answer sl_acts_answer sl_cases_answer sl_task_answer sl_act_answer sl_plan_answer sl_fact_answer sl_after_answer sl_answers sl_answer w_ROLES_kind w_ROLES_thing w_ROLES_fact w_ROLES_act w_ROLES_needs w_ROLES_bars w_ROLES_brings w_ROLES_takes w_ROLES_now w_ROLES_want w_WORD_COUNTS_kind w_WORD_COUNTS_thing w_WORD_COUNTS_fact w_WORD_COUNTS_act w_WORD_COUNTS_needs w_WORD_COUNTS_bars w_WORD_COUNTS_brings w_WORD_COUNTS_takes w_WORD_COUNTS_now w_WORD_COUNTS_want w_OF : Array (Option Value)} {oc_actInit kV_actInit dc_actInit pm_actInit cd_actInit ct_actInit oc_textInit kV_textInit dc_textInit pm_textInit cd_textInit ct_textInit oc_deedInit kV_deedInit dc_deedInit pm_deedInit cd_deedInit ct_deedInit oc_houseInit kV_houseInit dc_houseInit pm_houseInit cd_houseInit ct_houseInit oc_all_facts kV_all_facts dc_all_facts pm_all_facts cd_all_facts ct_all_facts oc_all_acts kV_all_acts dc_all_acts pm_all_acts cd_all_acts ct_all_acts oc_all_cases kV_all_cases dc_all_cases pm_all_cases cd_all_cases ct_all_cases oc_rows_of kV_rows_of dc_rows_of pm_rows_of cd_rows_of ct_rows_of oc_longer_rows kV_longer_rows dc_longer_rows pm_longer_rows cd_longer_rows ct_longer_rows oc_things_of kV_things_of dc_things_of pm_things_of cd_things_of ct_things_of oc_thing_names kV_thing_names dc_thing_names pm_thing_names cd_thing_names ct_thing_names oc_fact_set kV_fact_set dc_fact_set pm_fact_set cd_fact_set ct_fact_set oc_case_of kV_case_of dc_case_of pm_case_of cd_case_of ct_case_of oc_tell kV_tell dc_tell pm_tell cd_tell ct_tell oc_claims_of kV_claims_of dc_claims_of pm_claims_of cd_claims_of ct_claims_of oc_last_places kV_last_places dc_last_places pm_last_places cd_last_places ct_last_places oc_all_deeds kV_all_deeds dc_all_deeds pm_all_deeds cd_all_deeds ct_all_deeds oc_deed_of kV_deed_of dc_deed_of pm_deed_of cd_deed_of ct_deed_of oc_filled kV_filled dc_filled pm_filled cd_filled ct_filled oc_may_be_done kV_may_be_done dc_may_be_done pm_may_be_done cd_may_be_done ct_may_be_done oc_has_all kV_has_all dc_has_all pm_has_all cd_has_all ct_has_all oc_so_behind kV_so_behind dc_so_behind pm_so_behind cd_so_behind ct_so_behind oc_so_behind_all kV_so_behind_all dc_so_behind_all pm_so_behind_all cd_so_behind_all ct_so_behind_all oc_cut_lines kV_cut_lines dc_cut_lines pm_cut_lines cd_cut_lines ct_cut_lines oc_has_wrong_signs kV_has_wrong_signs dc_has_wrong_signs pm_has_wrong_signs cd_has_wrong_signs ct_has_wrong_signs oc_sign_of kV_sign_of dc_sign_of pm_sign_of cd_sign_of ct_sign_of oc_cut_words kV_cut_words dc_cut_words pm_cut_words cd_cut_words ct_cut_words oc_is_name kV_is_name dc_is_name pm_is_name cd_is_name ct_is_name oc_is_cost kV_is_cost dc_is_cost pm_is_cost cd_is_cost ct_is_cost oc_line_bytes kV_line_bytes dc_line_bytes pm_line_bytes cd_line_bytes ct_line_bytes oc_lowest_fault kV_lowest_fault dc_lowest_fault pm_lowest_fault cd_lowest_fault ct_lowest_fault oc_is_no_line kV_is_no_line dc_is_no_line pm_is_no_line cd_is_no_line ct_is_no_line oc_has_wrong_word kV_has_wrong_word dc_has_wrong_word pm_has_wrong_word cd_has_wrong_word ct_has_wrong_word oc_takes_a_name_again kV_takes_a_name_again dc_takes_a_name_again pm_takes_a_name_again cd_takes_a_name_again ct_takes_a_name_again oc_is_place_of_an_act kV_is_place_of_an_act dc_is_place_of_an_act pm_is_place_of_an_act cd_is_place_of_an_act ct_is_place_of_an_act oc_has_wrong_places kV_has_wrong_places dc_has_wrong_places pm_has_wrong_places cd_has_wrong_places ct_has_wrong_places oc_names_what_is_not_there kV_names_what_is_not_there dc_names_what_is_not_there pm_names_what_is_not_there cd_names_what_is_not_there ct_names_what_is_not_there oc_is_there kV_is_there dc_is_there pm_is_there cd_is_there ct_is_there oc_has_other_kinds kV_has_other_kinds dc_has_other_kinds pm_has_other_kinds cd_has_other_kinds ct_has_other_kinds oc_kind_of kV_kind_of dc_kind_of pm_kind_of cd_kind_of ct_kind_of oc_count_told kV_count_told dc_count_told pm_count_told cd_count_told ct_count_told oc_one_form kV_one_form dc_one_form pm_one_form cd_one_form ct_one_form oc_form_lines kV_form_lines dc_form_lines pm_form_lines cd_form_lines ct_form_lines oc_act_lines kV_act_lines dc_act_lines pm_act_lines cd_act_lines ct_act_lines oc_claim_lines kV_claim_lines dc_claim_lines pm_claim_lines cd_claim_lines ct_claim_lines oc_cheapest_plan kV_cheapest_plan dc_cheapest_plan pm_cheapest_plan cd_cheapest_plan ct_cheapest_plan oc_lowest_step kV_lowest_step dc_lowest_step pm_lowest_step cd_lowest_step ct_lowest_step oc_is_cheapest_step kV_is_cheapest_step dc_is_cheapest_step pm_is_cheapest_step cd_is_cheapest_step ct_is_cheapest_step oc_rest_costs kV_rest_costs dc_rest_costs pm_rest_costs cd_rest_costs ct_rest_costs oc_costs_at_the_end kV_costs_at_the_end dc_costs_at_the_end pm_costs_at_the_end cd_costs_at_the_end ct_costs_at_the_end oc_cheapest_waiting kV_cheapest_waiting dc_cheapest_waiting pm_cheapest_waiting ct_cheapest_waiting oc_ways_into kV_ways_into dc_ways_into pm_ways_into cd_ways_into ct_ways_into oc_read_answer kV_read_answer dc_read_answer pm_read_answer cd_read_answer ct_read_answer oc_move_in kV_move_in dc_move_in pm_move_in cd_move_in ct_move_in oc_take_line kV_take_line dc_take_line pm_take_line cd_take_line ct_take_line oc_whole_fault kV_whole_fault dc_whole_fault pm_whole_fault cd_whole_fault ct_whole_fault oc_print_answer kV_print_answer dc_print_answer pm_print_answer cd_print_answer ct_print_answer oc_facts_answer kV_facts_answer dc_facts_answer pm_facts_answer cd_facts_answer ct_facts_answer oc_acts_answer kV_acts_answer dc_acts_answer pm_acts_answer cd_acts_answer ct_acts_answer oc_cases_answer kV_cases_answer dc_cases_answer pm_cases_answer cd_cases_answer ct_cases_answer oc_task_answer kV_task_answer dc_task_answer pm_task_answer cd_task_answer ct_task_answer oc_act_answer kV_act_answer dc_act_answer pm_act_answer cd_act_answer ct_act_answer oc_plan_answer kV_plan_answer dc_plan_answer pm_plan_answer cd_plan_answer ct_plan_answer oc_fact_answer kV_fact_answer dc_fact_answer pm_fact_answer cd_fact_answer ct_fact_answer oc_after_answer kV_after_answer dc_after_answer pm_after_answer cd_after_answer ct_after_answer oc_answers kV_answers dc_answers pm_answers cd_answers ct_answers oc_answer kV_answer dc_answer pm_answer cd_answer ct_answer : Value} {en_ROLES m_ROLES_kind m_ROLES_thing m_ROLES_fact m_ROLES_act m_ROLES_needs m_ROLES_bars m_ROLES_brings m_ROLES_takes m_ROLES_now m_ROLES_want en_WORD_COUNTS m_WORD_COUNTS_kind m_WORD_COUNTS_thing m_WORD_COUNTS_fact m_WORD_COUNTS_act m_WORD_COUNTS_needs m_WORD_COUNTS_bars m_WORD_COUNTS_brings m_WORD_COUNTS_takes m_WORD_COUNTS_now m_WORD_COUNTS_want en_MOST m_OF : Nat} {t_LINE_END t_BLANK t_LAST_SIGN t_MOST_SIGNS t_MOST_NAME_SIGNS t_MOST_COST_SIGNS t_LETTERS t_DIGITS t_OTHER_SIGN t_NO_FAULT t_MOST_FACTS t_MOST_ACTS t_WRONG_TEXT t_NONE_SUCH t_NOT_TO_BE_DONE t_NO_PLAN t_READ t_PRINT t_FACTS t_ACTS t_TASK t_ACT t_PLAN t_FACT t_AFTER t_MOST_kind t_MOST_thing t_MOST_fact t_MOST_act t_MOST_needs t_MOST_bars t_MOST_brings t_MOST_takes t_MOST_now t_MOST_want : Tok} {es_ROLES es_WORD_COUNTS es_MOST : Array DictEntry} {u_ROLES_kind u_ROLES_thing u_ROLES_fact u_ROLES_act u_ROLES_needs u_ROLES_bars u_ROLES_brings u_ROLES_takes u_ROLES_now u_ROLES_want u_WORD_COUNTS_kind u_WORD_COUNTS_thing u_WORD_COUNTS_fact u_WORD_COUNTS_act u_WORD_COUNTS_needs u_WORD_COUNTS_bars u_WORD_COUNTS_brings u_WORD_COUNTS_takes u_WORD_COUNTS_now u_WORD_COUNTS_want u_OF : Array Value} (X : K.In h) (G : h.Ns mainGlobals mg) (hfa : mg "answers" = some (.ref fa))
    (g_CA : PySem.W.nsIn K mainGlobals "Act" = some (some (.ref CA)))
    (pg_CA : PySem.W.plainGet K CA Str.empty = true)
    (hd_CA : PySem.W.hasDictIn K CA = true)
    (po_CA : PySem.W.plainOver K CA = true)
    (sa_CA : PySem.W.findIn K (.ref CA) "__setattr__" = some (some (.builtin "object.__setattr__")))
    (mk_CA : PySem.W.makesIn K CA = true)
    (kc_CA : PySem.W.keepIn K (.ref CA) = true)
    (n_CA_name : PySem.W.findIn K (.ref CA) "name" = some none)
    (n_CA_cost : PySem.W.findIn K (.ref CA) "cost" = some none)
    (n_CA_places : PySem.W.findIn K (.ref CA) "places" = some none)
    (n_CA_kinds : PySem.W.findIn K (.ref CA) "kinds" = some none)
    (n_CA_claims : PySem.W.findIn K (.ref CA) "claims" = some none)
    (a_actInit : PySem.W.findIn K (.ref CA) "__init__" = some (some (.ref f_actInit)))
    (i_actInit : PySem.W.isFn K (.ref f_actInit) = true)
    (l_actInit : K.lookup f_actInit = some ⟨oc_actInit, od_actInit, .func (PySem.W.fnOf "__init__" "Act.__init__" (defArgs s_actInit) (defBody s_actInit) (defScope s_actInit) .none kV_actInit dc_actInit pm_actInit an_actInit cd_actInit ct_actInit), sl_actInit⟩)
    (c_actInit : PySem.W.codeIn K cd_actInit "Act.__init__" = true)
    (k_actInit : PySem.W.keepIn K (.ref f_actInit) = true)
    (g_CT : PySem.W.nsIn K mainGlobals "Text" = some (some (.ref CT)))
    (pg_CT : PySem.W.plainGet K CT Str.empty = true)
    (hd_CT : PySem.W.hasDictIn K CT = true)
    (po_CT : PySem.W.plainOver K CT = true)
    (sa_CT : PySem.W.findIn K (.ref CT) "__setattr__" = some (some (.builtin "object.__setattr__")))
    (mk_CT : PySem.W.makesIn K CT = true)
    (kc_CT : PySem.W.keepIn K (.ref CT) = true)
    (n_CT_kinds : PySem.W.findIn K (.ref CT) "kinds" = some none)
    (n_CT_things : PySem.W.findIn K (.ref CT) "things" = some none)
    (n_CT_thing_kinds : PySem.W.findIn K (.ref CT) "thing_kinds" = some none)
    (n_CT_facts : PySem.W.findIn K (.ref CT) "facts" = some none)
    (n_CT_fact_kinds : PySem.W.findIn K (.ref CT) "fact_kinds" = some none)
    (n_CT_acts : PySem.W.findIn K (.ref CT) "acts" = some none)
    (n_CT_now : PySem.W.findIn K (.ref CT) "now" = some none)
    (n_CT_want : PySem.W.findIn K (.ref CT) "want" = some none)
    (a_textInit : PySem.W.findIn K (.ref CT) "__init__" = some (some (.ref f_textInit)))
    (i_textInit : PySem.W.isFn K (.ref f_textInit) = true)
    (l_textInit : K.lookup f_textInit = some ⟨oc_textInit, od_textInit, .func (PySem.W.fnOf "__init__" "Text.__init__" (defArgs s_textInit) (defBody s_textInit) (defScope s_textInit) .none kV_textInit dc_textInit pm_textInit an_textInit cd_textInit ct_textInit), sl_textInit⟩)
    (c_textInit : PySem.W.codeIn K cd_textInit "Text.__init__" = true)
    (k_textInit : PySem.W.keepIn K (.ref f_textInit) = true)
    (g_CD : PySem.W.nsIn K mainGlobals "Deed" = some (some (.ref CD)))
    (pg_CD : PySem.W.plainGet K CD Str.empty = true)
    (hd_CD : PySem.W.hasDictIn K CD = true)
    (po_CD : PySem.W.plainOver K CD = true)
    (sa_CD : PySem.W.findIn K (.ref CD) "__setattr__" = some (some (.builtin "object.__setattr__")))
    (mk_CD : PySem.W.makesIn K CD = true)
    (kc_CD : PySem.W.keepIn K (.ref CD) = true)
    (n_CD_words : PySem.W.findIn K (.ref CD) "words" = some none)
    (n_CD_cost : PySem.W.findIn K (.ref CD) "cost" = some none)
    (n_CD_needs : PySem.W.findIn K (.ref CD) "needs" = some none)
    (n_CD_bars : PySem.W.findIn K (.ref CD) "bars" = some none)
    (n_CD_brings : PySem.W.findIn K (.ref CD) "brings" = some none)
    (n_CD_takes : PySem.W.findIn K (.ref CD) "takes" = some none)
    (a_deedInit : PySem.W.findIn K (.ref CD) "__init__" = some (some (.ref f_deedInit)))
    (i_deedInit : PySem.W.isFn K (.ref f_deedInit) = true)
    (l_deedInit : K.lookup f_deedInit = some ⟨oc_deedInit, od_deedInit, .func (PySem.W.fnOf "__init__" "Deed.__init__" (defArgs s_deedInit) (defBody s_deedInit) (defScope s_deedInit) .none kV_deedInit dc_deedInit pm_deedInit an_deedInit cd_deedInit ct_deedInit), sl_deedInit⟩)
    (c_deedInit : PySem.W.codeIn K cd_deedInit "Deed.__init__" = true)
    (k_deedInit : PySem.W.keepIn K (.ref f_deedInit) = true)
    (g_CH : PySem.W.nsIn K mainGlobals "House" = some (some (.ref CH)))
    (pg_CH : PySem.W.plainGet K CH Str.empty = true)
    (hd_CH : PySem.W.hasDictIn K CH = true)
    (po_CH : PySem.W.plainOver K CH = true)
    (sa_CH : PySem.W.findIn K (.ref CH) "__setattr__" = some (some (.builtin "object.__setattr__")))
    (mk_CH : PySem.W.makesIn K CH = true)
    (kc_CH : PySem.W.keepIn K (.ref CH) = true)
    (n_CH_text : PySem.W.findIn K (.ref CH) "text" = some none)
    (n_CH_facts : PySem.W.findIn K (.ref CH) "facts" = some none)
    (n_CH_acts : PySem.W.findIn K (.ref CH) "acts" = some none)
    (n_CH_deeds : PySem.W.findIn K (.ref CH) "deeds" = some none)
    (n_CH_first : PySem.W.findIn K (.ref CH) "first" = some none)
    (n_CH_wanted : PySem.W.findIn K (.ref CH) "wanted" = some none)
    (a_houseInit : PySem.W.findIn K (.ref CH) "__init__" = some (some (.ref f_houseInit)))
    (i_houseInit : PySem.W.isFn K (.ref f_houseInit) = true)
    (l_houseInit : K.lookup f_houseInit = some ⟨oc_houseInit, od_houseInit, .func (PySem.W.fnOf "__init__" "House.__init__" (defArgs s_houseInit) (defBody s_houseInit) (defScope s_houseInit) .none kV_houseInit dc_houseInit pm_houseInit an_houseInit cd_houseInit ct_houseInit), sl_houseInit⟩)
    (c_houseInit : PySem.W.codeIn K cd_houseInit "House.__init__" = true)
    (k_houseInit : PySem.W.keepIn K (.ref f_houseInit) = true)
    (d_TH : CT ≠ CH)
    (d_AH : CA ≠ CH)
    (d_DH : CD ≠ CH)
    (a_all_facts : PySem.W.nsIn K mainGlobals "all_facts" = some (some (.ref f_all_facts)))
    (l_all_facts : K.lookup f_all_facts = some ⟨oc_all_facts, od_all_facts, .func (PySem.W.fnOf "all_facts" "all_facts" (defArgs s_all_facts) (defBody s_all_facts) (defScope s_all_facts) .none kV_all_facts dc_all_facts pm_all_facts an_all_facts cd_all_facts ct_all_facts), sl_all_facts⟩)
    (c_all_facts : PySem.W.codeIn K cd_all_facts "all_facts" = true)
    (k_all_facts : PySem.W.keepIn K (.ref f_all_facts) = true)
    (a_all_acts : PySem.W.nsIn K mainGlobals "all_acts" = some (some (.ref f_all_acts)))
    (l_all_acts : K.lookup f_all_acts = some ⟨oc_all_acts, od_all_acts, .func (PySem.W.fnOf "all_acts" "all_acts" (defArgs s_all_acts) (defBody s_all_acts) (defScope s_all_acts) .none kV_all_acts dc_all_acts pm_all_acts an_all_acts cd_all_acts ct_all_acts), sl_all_acts⟩)
    (c_all_acts : PySem.W.codeIn K cd_all_acts "all_acts" = true)
    (k_all_acts : PySem.W.keepIn K (.ref f_all_acts) = true)
    (a_all_cases : PySem.W.nsIn K mainGlobals "all_cases" = some (some (.ref f_all_cases)))
    (l_all_cases : K.lookup f_all_cases = some ⟨oc_all_cases, od_all_cases, .func (PySem.W.fnOf "all_cases" "all_cases" (defArgs s_all_cases) (defBody s_all_cases) (defScope s_all_cases) .none kV_all_cases dc_all_cases pm_all_cases an_all_cases cd_all_cases ct_all_cases), sl_all_cases⟩)
    (c_all_cases : PySem.W.codeIn K cd_all_cases "all_cases" = true)
    (k_all_cases : PySem.W.keepIn K (.ref f_all_cases) = true)
    (a_rows_of : PySem.W.nsIn K mainGlobals "rows_of" = some (some (.ref f_rows_of)))
    (l_rows_of : K.lookup f_rows_of = some ⟨oc_rows_of, od_rows_of, .func (PySem.W.fnOf "rows_of" "rows_of" (defArgs s_rows_of) (defBody s_rows_of) (defScope s_rows_of) .none kV_rows_of dc_rows_of pm_rows_of an_rows_of cd_rows_of ct_rows_of), sl_rows_of⟩)
    (c_rows_of : PySem.W.codeIn K cd_rows_of "rows_of" = true)
    (k_rows_of : PySem.W.keepIn K (.ref f_rows_of) = true)
    (a_longer_rows : PySem.W.nsIn K mainGlobals "longer_rows" = some (some (.ref f_longer_rows)))
    (l_longer_rows : K.lookup f_longer_rows = some ⟨oc_longer_rows, od_longer_rows, .func (PySem.W.fnOf "longer_rows" "longer_rows" (defArgs s_longer_rows) (defBody s_longer_rows) (defScope s_longer_rows) .none kV_longer_rows dc_longer_rows pm_longer_rows an_longer_rows cd_longer_rows ct_longer_rows), sl_longer_rows⟩)
    (c_longer_rows : PySem.W.codeIn K cd_longer_rows "longer_rows" = true)
    (k_longer_rows : PySem.W.keepIn K (.ref f_longer_rows) = true)
    (a_things_of : PySem.W.nsIn K mainGlobals "things_of" = some (some (.ref f_things_of)))
    (l_things_of : K.lookup f_things_of = some ⟨oc_things_of, od_things_of, .func (PySem.W.fnOf "things_of" "things_of" (defArgs s_things_of) (defBody s_things_of) (defScope s_things_of) .none kV_things_of dc_things_of pm_things_of an_things_of cd_things_of ct_things_of), sl_things_of⟩)
    (c_things_of : PySem.W.codeIn K cd_things_of "things_of" = true)
    (k_things_of : PySem.W.keepIn K (.ref f_things_of) = true)
    (a_thing_names : PySem.W.nsIn K mainGlobals "thing_names" = some (some (.ref f_thing_names)))
    (l_thing_names : K.lookup f_thing_names = some ⟨oc_thing_names, od_thing_names, .func (PySem.W.fnOf "thing_names" "thing_names" (defArgs s_thing_names) (defBody s_thing_names) (defScope s_thing_names) .none kV_thing_names dc_thing_names pm_thing_names an_thing_names cd_thing_names ct_thing_names), sl_thing_names⟩)
    (c_thing_names : PySem.W.codeIn K cd_thing_names "thing_names" = true)
    (k_thing_names : PySem.W.keepIn K (.ref f_thing_names) = true)
    (a_fact_set : PySem.W.nsIn K mainGlobals "fact_set" = some (some (.ref f_fact_set)))
    (l_fact_set : K.lookup f_fact_set = some ⟨oc_fact_set, od_fact_set, .func (PySem.W.fnOf "fact_set" "fact_set" (defArgs s_fact_set) (defBody s_fact_set) (defScope s_fact_set) .none kV_fact_set dc_fact_set pm_fact_set an_fact_set cd_fact_set ct_fact_set), sl_fact_set⟩)
    (c_fact_set : PySem.W.codeIn K cd_fact_set "fact_set" = true)
    (k_fact_set : PySem.W.keepIn K (.ref f_fact_set) = true)
    (a_case_of : PySem.W.nsIn K mainGlobals "case_of" = some (some (.ref f_case_of)))
    (l_case_of : K.lookup f_case_of = some ⟨oc_case_of, od_case_of, .func (PySem.W.fnOf "case_of" "case_of" (defArgs s_case_of) (defBody s_case_of) (defScope s_case_of) .none kV_case_of dc_case_of pm_case_of an_case_of cd_case_of ct_case_of), sl_case_of⟩)
    (c_case_of : PySem.W.codeIn K cd_case_of "case_of" = true)
    (k_case_of : PySem.W.keepIn K (.ref f_case_of) = true)
    (a_tell : PySem.W.nsIn K mainGlobals "tell" = some (some (.ref f_tell)))
    (l_tell : K.lookup f_tell = some ⟨oc_tell, od_tell, .func (PySem.W.fnOf "tell" "tell" (defArgs s_tell) (defBody s_tell) (defScope s_tell) .none kV_tell dc_tell pm_tell an_tell cd_tell ct_tell), sl_tell⟩)
    (c_tell : PySem.W.codeIn K cd_tell "tell" = true)
    (k_tell : PySem.W.keepIn K (.ref f_tell) = true)
    (a_claims_of : PySem.W.nsIn K mainGlobals "claims_of" = some (some (.ref f_claims_of)))
    (l_claims_of : K.lookup f_claims_of = some ⟨oc_claims_of, od_claims_of, .func (PySem.W.fnOf "claims_of" "claims_of" (defArgs s_claims_of) (defBody s_claims_of) (defScope s_claims_of) .none kV_claims_of dc_claims_of pm_claims_of an_claims_of cd_claims_of ct_claims_of), sl_claims_of⟩)
    (c_claims_of : PySem.W.codeIn K cd_claims_of "claims_of" = true)
    (k_claims_of : PySem.W.keepIn K (.ref f_claims_of) = true)
    (a_last_places : PySem.W.nsIn K mainGlobals "last_places" = some (some (.ref f_last_places)))
    (l_last_places : K.lookup f_last_places = some ⟨oc_last_places, od_last_places, .func (PySem.W.fnOf "last_places" "last_places" (defArgs s_last_places) (defBody s_last_places) (defScope s_last_places) .none kV_last_places dc_last_places pm_last_places an_last_places cd_last_places ct_last_places), sl_last_places⟩)
    (c_last_places : PySem.W.codeIn K cd_last_places "last_places" = true)
    (k_last_places : PySem.W.keepIn K (.ref f_last_places) = true)
    (a_all_deeds : PySem.W.nsIn K mainGlobals "all_deeds" = some (some (.ref f_all_deeds)))
    (l_all_deeds : K.lookup f_all_deeds = some ⟨oc_all_deeds, od_all_deeds, .func (PySem.W.fnOf "all_deeds" "all_deeds" (defArgs s_all_deeds) (defBody s_all_deeds) (defScope s_all_deeds) .none kV_all_deeds dc_all_deeds pm_all_deeds an_all_deeds cd_all_deeds ct_all_deeds), sl_all_deeds⟩)
    (c_all_deeds : PySem.W.codeIn K cd_all_deeds "all_deeds" = true)
    (k_all_deeds : PySem.W.keepIn K (.ref f_all_deeds) = true)
    (a_deed_of : PySem.W.nsIn K mainGlobals "deed_of" = some (some (.ref f_deed_of)))
    (l_deed_of : K.lookup f_deed_of = some ⟨oc_deed_of, od_deed_of, .func (PySem.W.fnOf "deed_of" "deed_of" (defArgs s_deed_of) (defBody s_deed_of) (defScope s_deed_of) .none kV_deed_of dc_deed_of pm_deed_of an_deed_of cd_deed_of ct_deed_of), sl_deed_of⟩)
    (c_deed_of : PySem.W.codeIn K cd_deed_of "deed_of" = true)
    (k_deed_of : PySem.W.keepIn K (.ref f_deed_of) = true)
    (a_filled : PySem.W.nsIn K mainGlobals "filled" = some (some (.ref f_filled)))
    (l_filled : K.lookup f_filled = some ⟨oc_filled, od_filled, .func (PySem.W.fnOf "filled" "filled" (defArgs s_filled) (defBody s_filled) (defScope s_filled) .none kV_filled dc_filled pm_filled an_filled cd_filled ct_filled), sl_filled⟩)
    (c_filled : PySem.W.codeIn K cd_filled "filled" = true)
    (k_filled : PySem.W.keepIn K (.ref f_filled) = true)
    (a_may_be_done : PySem.W.nsIn K mainGlobals "may_be_done" = some (some (.ref f_may_be_done)))
    (l_may_be_done : K.lookup f_may_be_done = some ⟨oc_may_be_done, od_may_be_done, .func (PySem.W.fnOf "may_be_done" "may_be_done" (defArgs s_may_be_done) (defBody s_may_be_done) (defScope s_may_be_done) .none kV_may_be_done dc_may_be_done pm_may_be_done an_may_be_done cd_may_be_done ct_may_be_done), sl_may_be_done⟩)
    (c_may_be_done : PySem.W.codeIn K cd_may_be_done "may_be_done" = true)
    (k_may_be_done : PySem.W.keepIn K (.ref f_may_be_done) = true)
    (a_has_all : PySem.W.nsIn K mainGlobals "has_all" = some (some (.ref f_has_all)))
    (l_has_all : K.lookup f_has_all = some ⟨oc_has_all, od_has_all, .func (PySem.W.fnOf "has_all" "has_all" (defArgs s_has_all) (defBody s_has_all) (defScope s_has_all) .none kV_has_all dc_has_all pm_has_all an_has_all cd_has_all ct_has_all), sl_has_all⟩)
    (c_has_all : PySem.W.codeIn K cd_has_all "has_all" = true)
    (k_has_all : PySem.W.keepIn K (.ref f_has_all) = true)
    (a_so_behind : PySem.W.nsIn K mainGlobals "so_behind" = some (some (.ref f_so_behind)))
    (l_so_behind : K.lookup f_so_behind = some ⟨oc_so_behind, od_so_behind, .func (PySem.W.fnOf "so_behind" "so_behind" (defArgs s_so_behind) (defBody s_so_behind) (defScope s_so_behind) .none kV_so_behind dc_so_behind pm_so_behind an_so_behind cd_so_behind ct_so_behind), sl_so_behind⟩)
    (c_so_behind : PySem.W.codeIn K cd_so_behind "so_behind" = true)
    (k_so_behind : PySem.W.keepIn K (.ref f_so_behind) = true)
    (a_so_behind_all : PySem.W.nsIn K mainGlobals "so_behind_all" = some (some (.ref f_so_behind_all)))
    (l_so_behind_all : K.lookup f_so_behind_all = some ⟨oc_so_behind_all, od_so_behind_all, .func (PySem.W.fnOf "so_behind_all" "so_behind_all" (defArgs s_so_behind_all) (defBody s_so_behind_all) (defScope s_so_behind_all) .none kV_so_behind_all dc_so_behind_all pm_so_behind_all an_so_behind_all cd_so_behind_all ct_so_behind_all), sl_so_behind_all⟩)
    (c_so_behind_all : PySem.W.codeIn K cd_so_behind_all "so_behind_all" = true)
    (k_so_behind_all : PySem.W.keepIn K (.ref f_so_behind_all) = true)
    (a_cut_lines : PySem.W.nsIn K mainGlobals "cut_lines" = some (some (.ref f_cut_lines)))
    (l_cut_lines : K.lookup f_cut_lines = some ⟨oc_cut_lines, od_cut_lines, .func (PySem.W.fnOf "cut_lines" "cut_lines" (defArgs s_cut_lines) (defBody s_cut_lines) (defScope s_cut_lines) .none kV_cut_lines dc_cut_lines pm_cut_lines an_cut_lines cd_cut_lines ct_cut_lines), sl_cut_lines⟩)
    (c_cut_lines : PySem.W.codeIn K cd_cut_lines "cut_lines" = true)
    (k_cut_lines : PySem.W.keepIn K (.ref f_cut_lines) = true)
    (a_has_wrong_signs : PySem.W.nsIn K mainGlobals "has_wrong_signs" = some (some (.ref f_has_wrong_signs)))
    (l_has_wrong_signs : K.lookup f_has_wrong_signs = some ⟨oc_has_wrong_signs, od_has_wrong_signs, .func (PySem.W.fnOf "has_wrong_signs" "has_wrong_signs" (defArgs s_has_wrong_signs) (defBody s_has_wrong_signs) (defScope s_has_wrong_signs) .none kV_has_wrong_signs dc_has_wrong_signs pm_has_wrong_signs an_has_wrong_signs cd_has_wrong_signs ct_has_wrong_signs), sl_has_wrong_signs⟩)
    (c_has_wrong_signs : PySem.W.codeIn K cd_has_wrong_signs "has_wrong_signs" = true)
    (k_has_wrong_signs : PySem.W.keepIn K (.ref f_has_wrong_signs) = true)
    (a_sign_of : PySem.W.nsIn K mainGlobals "sign_of" = some (some (.ref f_sign_of)))
    (l_sign_of : K.lookup f_sign_of = some ⟨oc_sign_of, od_sign_of, .func (PySem.W.fnOf "sign_of" "sign_of" (defArgs s_sign_of) (defBody s_sign_of) (defScope s_sign_of) .none kV_sign_of dc_sign_of pm_sign_of an_sign_of cd_sign_of ct_sign_of), sl_sign_of⟩)
    (c_sign_of : PySem.W.codeIn K cd_sign_of "sign_of" = true)
    (k_sign_of : PySem.W.keepIn K (.ref f_sign_of) = true)
    (a_cut_words : PySem.W.nsIn K mainGlobals "cut_words" = some (some (.ref f_cut_words)))
    (l_cut_words : K.lookup f_cut_words = some ⟨oc_cut_words, od_cut_words, .func (PySem.W.fnOf "cut_words" "cut_words" (defArgs s_cut_words) (defBody s_cut_words) (defScope s_cut_words) .none kV_cut_words dc_cut_words pm_cut_words an_cut_words cd_cut_words ct_cut_words), sl_cut_words⟩)
    (c_cut_words : PySem.W.codeIn K cd_cut_words "cut_words" = true)
    (k_cut_words : PySem.W.keepIn K (.ref f_cut_words) = true)
    (a_is_name : PySem.W.nsIn K mainGlobals "is_name" = some (some (.ref f_is_name)))
    (l_is_name : K.lookup f_is_name = some ⟨oc_is_name, od_is_name, .func (PySem.W.fnOf "is_name" "is_name" (defArgs s_is_name) (defBody s_is_name) (defScope s_is_name) .none kV_is_name dc_is_name pm_is_name an_is_name cd_is_name ct_is_name), sl_is_name⟩)
    (c_is_name : PySem.W.codeIn K cd_is_name "is_name" = true)
    (k_is_name : PySem.W.keepIn K (.ref f_is_name) = true)
    (a_is_cost : PySem.W.nsIn K mainGlobals "is_cost" = some (some (.ref f_is_cost)))
    (l_is_cost : K.lookup f_is_cost = some ⟨oc_is_cost, od_is_cost, .func (PySem.W.fnOf "is_cost" "is_cost" (defArgs s_is_cost) (defBody s_is_cost) (defScope s_is_cost) .none kV_is_cost dc_is_cost pm_is_cost an_is_cost cd_is_cost ct_is_cost), sl_is_cost⟩)
    (c_is_cost : PySem.W.codeIn K cd_is_cost "is_cost" = true)
    (k_is_cost : PySem.W.keepIn K (.ref f_is_cost) = true)
    (a_line_bytes : PySem.W.nsIn K mainGlobals "line_bytes" = some (some (.ref f_line_bytes)))
    (l_line_bytes : K.lookup f_line_bytes = some ⟨oc_line_bytes, od_line_bytes, .func (PySem.W.fnOf "line_bytes" "line_bytes" (defArgs s_line_bytes) (defBody s_line_bytes) (defScope s_line_bytes) .none kV_line_bytes dc_line_bytes pm_line_bytes an_line_bytes cd_line_bytes ct_line_bytes), sl_line_bytes⟩)
    (c_line_bytes : PySem.W.codeIn K cd_line_bytes "line_bytes" = true)
    (k_line_bytes : PySem.W.keepIn K (.ref f_line_bytes) = true)
    (a_lowest_fault : PySem.W.nsIn K mainGlobals "lowest_fault" = some (some (.ref f_lowest_fault)))
    (l_lowest_fault : K.lookup f_lowest_fault = some ⟨oc_lowest_fault, od_lowest_fault, .func (PySem.W.fnOf "lowest_fault" "lowest_fault" (defArgs s_lowest_fault) (defBody s_lowest_fault) (defScope s_lowest_fault) .none kV_lowest_fault dc_lowest_fault pm_lowest_fault an_lowest_fault cd_lowest_fault ct_lowest_fault), sl_lowest_fault⟩)
    (c_lowest_fault : PySem.W.codeIn K cd_lowest_fault "lowest_fault" = true)
    (k_lowest_fault : PySem.W.keepIn K (.ref f_lowest_fault) = true)
    (a_is_no_line : PySem.W.nsIn K mainGlobals "is_no_line" = some (some (.ref f_is_no_line)))
    (l_is_no_line : K.lookup f_is_no_line = some ⟨oc_is_no_line, od_is_no_line, .func (PySem.W.fnOf "is_no_line" "is_no_line" (defArgs s_is_no_line) (defBody s_is_no_line) (defScope s_is_no_line) .none kV_is_no_line dc_is_no_line pm_is_no_line an_is_no_line cd_is_no_line ct_is_no_line), sl_is_no_line⟩)
    (c_is_no_line : PySem.W.codeIn K cd_is_no_line "is_no_line" = true)
    (k_is_no_line : PySem.W.keepIn K (.ref f_is_no_line) = true)
    (a_has_wrong_word : PySem.W.nsIn K mainGlobals "has_wrong_word" = some (some (.ref f_has_wrong_word)))
    (l_has_wrong_word : K.lookup f_has_wrong_word = some ⟨oc_has_wrong_word, od_has_wrong_word, .func (PySem.W.fnOf "has_wrong_word" "has_wrong_word" (defArgs s_has_wrong_word) (defBody s_has_wrong_word) (defScope s_has_wrong_word) .none kV_has_wrong_word dc_has_wrong_word pm_has_wrong_word an_has_wrong_word cd_has_wrong_word ct_has_wrong_word), sl_has_wrong_word⟩)
    (c_has_wrong_word : PySem.W.codeIn K cd_has_wrong_word "has_wrong_word" = true)
    (k_has_wrong_word : PySem.W.keepIn K (.ref f_has_wrong_word) = true)
    (a_takes_a_name_again : PySem.W.nsIn K mainGlobals "takes_a_name_again" = some (some (.ref f_takes_a_name_again)))
    (l_takes_a_name_again : K.lookup f_takes_a_name_again = some ⟨oc_takes_a_name_again, od_takes_a_name_again, .func (PySem.W.fnOf "takes_a_name_again" "takes_a_name_again" (defArgs s_takes_a_name_again) (defBody s_takes_a_name_again) (defScope s_takes_a_name_again) .none kV_takes_a_name_again dc_takes_a_name_again pm_takes_a_name_again an_takes_a_name_again cd_takes_a_name_again ct_takes_a_name_again), sl_takes_a_name_again⟩)
    (c_takes_a_name_again : PySem.W.codeIn K cd_takes_a_name_again "takes_a_name_again" = true)
    (k_takes_a_name_again : PySem.W.keepIn K (.ref f_takes_a_name_again) = true)
    (a_is_place_of_an_act : PySem.W.nsIn K mainGlobals "is_place_of_an_act" = some (some (.ref f_is_place_of_an_act)))
    (l_is_place_of_an_act : K.lookup f_is_place_of_an_act = some ⟨oc_is_place_of_an_act, od_is_place_of_an_act, .func (PySem.W.fnOf "is_place_of_an_act" "is_place_of_an_act" (defArgs s_is_place_of_an_act) (defBody s_is_place_of_an_act) (defScope s_is_place_of_an_act) .none kV_is_place_of_an_act dc_is_place_of_an_act pm_is_place_of_an_act an_is_place_of_an_act cd_is_place_of_an_act ct_is_place_of_an_act), sl_is_place_of_an_act⟩)
    (c_is_place_of_an_act : PySem.W.codeIn K cd_is_place_of_an_act "is_place_of_an_act" = true)
    (k_is_place_of_an_act : PySem.W.keepIn K (.ref f_is_place_of_an_act) = true)
    (a_has_wrong_places : PySem.W.nsIn K mainGlobals "has_wrong_places" = some (some (.ref f_has_wrong_places)))
    (l_has_wrong_places : K.lookup f_has_wrong_places = some ⟨oc_has_wrong_places, od_has_wrong_places, .func (PySem.W.fnOf "has_wrong_places" "has_wrong_places" (defArgs s_has_wrong_places) (defBody s_has_wrong_places) (defScope s_has_wrong_places) .none kV_has_wrong_places dc_has_wrong_places pm_has_wrong_places an_has_wrong_places cd_has_wrong_places ct_has_wrong_places), sl_has_wrong_places⟩)
    (c_has_wrong_places : PySem.W.codeIn K cd_has_wrong_places "has_wrong_places" = true)
    (k_has_wrong_places : PySem.W.keepIn K (.ref f_has_wrong_places) = true)
    (a_names_what_is_not_there : PySem.W.nsIn K mainGlobals "names_what_is_not_there" = some (some (.ref f_names_what_is_not_there)))
    (l_names_what_is_not_there : K.lookup f_names_what_is_not_there = some ⟨oc_names_what_is_not_there, od_names_what_is_not_there, .func (PySem.W.fnOf "names_what_is_not_there" "names_what_is_not_there" (defArgs s_names_what_is_not_there) (defBody s_names_what_is_not_there) (defScope s_names_what_is_not_there) .none kV_names_what_is_not_there dc_names_what_is_not_there pm_names_what_is_not_there an_names_what_is_not_there cd_names_what_is_not_there ct_names_what_is_not_there), sl_names_what_is_not_there⟩)
    (c_names_what_is_not_there : PySem.W.codeIn K cd_names_what_is_not_there "names_what_is_not_there" = true)
    (k_names_what_is_not_there : PySem.W.keepIn K (.ref f_names_what_is_not_there) = true)
    (a_is_there : PySem.W.nsIn K mainGlobals "is_there" = some (some (.ref f_is_there)))
    (l_is_there : K.lookup f_is_there = some ⟨oc_is_there, od_is_there, .func (PySem.W.fnOf "is_there" "is_there" (defArgs s_is_there) (defBody s_is_there) (defScope s_is_there) .none kV_is_there dc_is_there pm_is_there an_is_there cd_is_there ct_is_there), sl_is_there⟩)
    (c_is_there : PySem.W.codeIn K cd_is_there "is_there" = true)
    (k_is_there : PySem.W.keepIn K (.ref f_is_there) = true)
    (a_has_other_kinds : PySem.W.nsIn K mainGlobals "has_other_kinds" = some (some (.ref f_has_other_kinds)))
    (l_has_other_kinds : K.lookup f_has_other_kinds = some ⟨oc_has_other_kinds, od_has_other_kinds, .func (PySem.W.fnOf "has_other_kinds" "has_other_kinds" (defArgs s_has_other_kinds) (defBody s_has_other_kinds) (defScope s_has_other_kinds) .none kV_has_other_kinds dc_has_other_kinds pm_has_other_kinds an_has_other_kinds cd_has_other_kinds ct_has_other_kinds), sl_has_other_kinds⟩)
    (c_has_other_kinds : PySem.W.codeIn K cd_has_other_kinds "has_other_kinds" = true)
    (k_has_other_kinds : PySem.W.keepIn K (.ref f_has_other_kinds) = true)
    (a_kind_of : PySem.W.nsIn K mainGlobals "kind_of" = some (some (.ref f_kind_of)))
    (l_kind_of : K.lookup f_kind_of = some ⟨oc_kind_of, od_kind_of, .func (PySem.W.fnOf "kind_of" "kind_of" (defArgs s_kind_of) (defBody s_kind_of) (defScope s_kind_of) .none kV_kind_of dc_kind_of pm_kind_of an_kind_of cd_kind_of ct_kind_of), sl_kind_of⟩)
    (c_kind_of : PySem.W.codeIn K cd_kind_of "kind_of" = true)
    (k_kind_of : PySem.W.keepIn K (.ref f_kind_of) = true)
    (a_count_told : PySem.W.nsIn K mainGlobals "count_told" = some (some (.ref f_count_told)))
    (l_count_told : K.lookup f_count_told = some ⟨oc_count_told, od_count_told, .func (PySem.W.fnOf "count_told" "count_told" (defArgs s_count_told) (defBody s_count_told) (defScope s_count_told) .none kV_count_told dc_count_told pm_count_told an_count_told cd_count_told ct_count_told), sl_count_told⟩)
    (c_count_told : PySem.W.codeIn K cd_count_told "count_told" = true)
    (k_count_told : PySem.W.keepIn K (.ref f_count_told) = true)
    (a_one_form : PySem.W.nsIn K mainGlobals "one_form" = some (some (.ref f_one_form)))
    (l_one_form : K.lookup f_one_form = some ⟨oc_one_form, od_one_form, .func (PySem.W.fnOf "one_form" "one_form" (defArgs s_one_form) (defBody s_one_form) (defScope s_one_form) .none kV_one_form dc_one_form pm_one_form an_one_form cd_one_form ct_one_form), sl_one_form⟩)
    (c_one_form : PySem.W.codeIn K cd_one_form "one_form" = true)
    (k_one_form : PySem.W.keepIn K (.ref f_one_form) = true)
    (a_form_lines : PySem.W.nsIn K mainGlobals "form_lines" = some (some (.ref f_form_lines)))
    (l_form_lines : K.lookup f_form_lines = some ⟨oc_form_lines, od_form_lines, .func (PySem.W.fnOf "form_lines" "form_lines" (defArgs s_form_lines) (defBody s_form_lines) (defScope s_form_lines) .none kV_form_lines dc_form_lines pm_form_lines an_form_lines cd_form_lines ct_form_lines), sl_form_lines⟩)
    (c_form_lines : PySem.W.codeIn K cd_form_lines "form_lines" = true)
    (k_form_lines : PySem.W.keepIn K (.ref f_form_lines) = true)
    (a_act_lines : PySem.W.nsIn K mainGlobals "act_lines" = some (some (.ref f_act_lines)))
    (l_act_lines : K.lookup f_act_lines = some ⟨oc_act_lines, od_act_lines, .func (PySem.W.fnOf "act_lines" "act_lines" (defArgs s_act_lines) (defBody s_act_lines) (defScope s_act_lines) .none kV_act_lines dc_act_lines pm_act_lines an_act_lines cd_act_lines ct_act_lines), sl_act_lines⟩)
    (c_act_lines : PySem.W.codeIn K cd_act_lines "act_lines" = true)
    (k_act_lines : PySem.W.keepIn K (.ref f_act_lines) = true)
    (a_claim_lines : PySem.W.nsIn K mainGlobals "claim_lines" = some (some (.ref f_claim_lines)))
    (l_claim_lines : K.lookup f_claim_lines = some ⟨oc_claim_lines, od_claim_lines, .func (PySem.W.fnOf "claim_lines" "claim_lines" (defArgs s_claim_lines) (defBody s_claim_lines) (defScope s_claim_lines) .none kV_claim_lines dc_claim_lines pm_claim_lines an_claim_lines cd_claim_lines ct_claim_lines), sl_claim_lines⟩)
    (c_claim_lines : PySem.W.codeIn K cd_claim_lines "claim_lines" = true)
    (k_claim_lines : PySem.W.keepIn K (.ref f_claim_lines) = true)
    (a_cheapest_plan : PySem.W.nsIn K mainGlobals "cheapest_plan" = some (some (.ref f_cheapest_plan)))
    (l_cheapest_plan : K.lookup f_cheapest_plan = some ⟨oc_cheapest_plan, od_cheapest_plan, .func (PySem.W.fnOf "cheapest_plan" "cheapest_plan" (defArgs s_cheapest_plan) (defBody s_cheapest_plan) (defScope s_cheapest_plan) .none kV_cheapest_plan dc_cheapest_plan pm_cheapest_plan an_cheapest_plan cd_cheapest_plan ct_cheapest_plan), sl_cheapest_plan⟩)
    (c_cheapest_plan : PySem.W.codeIn K cd_cheapest_plan "cheapest_plan" = true)
    (k_cheapest_plan : PySem.W.keepIn K (.ref f_cheapest_plan) = true)
    (a_lowest_step : PySem.W.nsIn K mainGlobals "lowest_step" = some (some (.ref f_lowest_step)))
    (l_lowest_step : K.lookup f_lowest_step = some ⟨oc_lowest_step, od_lowest_step, .func (PySem.W.fnOf "lowest_step" "lowest_step" (defArgs s_lowest_step) (defBody s_lowest_step) (defScope s_lowest_step) .none kV_lowest_step dc_lowest_step pm_lowest_step an_lowest_step cd_lowest_step ct_lowest_step), sl_lowest_step⟩)
    (c_lowest_step : PySem.W.codeIn K cd_lowest_step "lowest_step" = true)
    (k_lowest_step : PySem.W.keepIn K (.ref f_lowest_step) = true)
    (a_is_cheapest_step : PySem.W.nsIn K mainGlobals "is_cheapest_step" = some (some (.ref f_is_cheapest_step)))
    (l_is_cheapest_step : K.lookup f_is_cheapest_step = some ⟨oc_is_cheapest_step, od_is_cheapest_step, .func (PySem.W.fnOf "is_cheapest_step" "is_cheapest_step" (defArgs s_is_cheapest_step) (defBody s_is_cheapest_step) (defScope s_is_cheapest_step) .none kV_is_cheapest_step dc_is_cheapest_step pm_is_cheapest_step an_is_cheapest_step cd_is_cheapest_step ct_is_cheapest_step), sl_is_cheapest_step⟩)
    (c_is_cheapest_step : PySem.W.codeIn K cd_is_cheapest_step "is_cheapest_step" = true)
    (k_is_cheapest_step : PySem.W.keepIn K (.ref f_is_cheapest_step) = true)
    (a_rest_costs : PySem.W.nsIn K mainGlobals "rest_costs" = some (some (.ref f_rest_costs)))
    (l_rest_costs : K.lookup f_rest_costs = some ⟨oc_rest_costs, od_rest_costs, .func (PySem.W.fnOf "rest_costs" "rest_costs" (defArgs s_rest_costs) (defBody s_rest_costs) (defScope s_rest_costs) .none kV_rest_costs dc_rest_costs pm_rest_costs an_rest_costs cd_rest_costs ct_rest_costs), sl_rest_costs⟩)
    (c_rest_costs : PySem.W.codeIn K cd_rest_costs "rest_costs" = true)
    (k_rest_costs : PySem.W.keepIn K (.ref f_rest_costs) = true)
    (a_costs_at_the_end : PySem.W.nsIn K mainGlobals "costs_at_the_end" = some (some (.ref f_costs_at_the_end)))
    (l_costs_at_the_end : K.lookup f_costs_at_the_end = some ⟨oc_costs_at_the_end, od_costs_at_the_end, .func (PySem.W.fnOf "costs_at_the_end" "costs_at_the_end" (defArgs s_costs_at_the_end) (defBody s_costs_at_the_end) (defScope s_costs_at_the_end) .none kV_costs_at_the_end dc_costs_at_the_end pm_costs_at_the_end an_costs_at_the_end cd_costs_at_the_end ct_costs_at_the_end), sl_costs_at_the_end⟩)
    (c_costs_at_the_end : PySem.W.codeIn K cd_costs_at_the_end "costs_at_the_end" = true)
    (k_costs_at_the_end : PySem.W.keepIn K (.ref f_costs_at_the_end) = true)
    (a_cheapest_waiting : PySem.W.nsIn K mainGlobals "cheapest_waiting" = some (some (.ref f_cheapest_waiting)))
    (l_cheapest_waiting : K.lookup f_cheapest_waiting = some ⟨oc_cheapest_waiting, od_cheapest_waiting, .func (PySem.W.fnOf "cheapest_waiting" "cheapest_waiting" (defArgs s_cheapest_waiting) (defBody s_cheapest_waiting) (defScope s_cheapest_waiting) .none kV_cheapest_waiting dc_cheapest_waiting pm_cheapest_waiting an_cheapest_waiting (.ref c0) ct_cheapest_waiting), sl_cheapest_waiting⟩)
    (c_cheapest_waiting : PySem.W.codeIn K (.ref c0) "cheapest_waiting" = true)
    (k_cheapest_waiting : PySem.W.keepIn K (.ref f_cheapest_waiting) = true)
    (a_ways_into : PySem.W.nsIn K mainGlobals "ways_into" = some (some (.ref f_ways_into)))
    (l_ways_into : K.lookup f_ways_into = some ⟨oc_ways_into, od_ways_into, .func (PySem.W.fnOf "ways_into" "ways_into" (defArgs s_ways_into) (defBody s_ways_into) (defScope s_ways_into) .none kV_ways_into dc_ways_into pm_ways_into an_ways_into cd_ways_into ct_ways_into), sl_ways_into⟩)
    (c_ways_into : PySem.W.codeIn K cd_ways_into "ways_into" = true)
    (k_ways_into : PySem.W.keepIn K (.ref f_ways_into) = true)
    (a_read_answer : PySem.W.nsIn K mainGlobals "read_answer" = some (some (.ref f_read_answer)))
    (l_read_answer : K.lookup f_read_answer = some ⟨oc_read_answer, od_read_answer, .func (PySem.W.fnOf "read_answer" "read_answer" (defArgs s_read_answer) (defBody s_read_answer) (defScope s_read_answer) .none kV_read_answer dc_read_answer pm_read_answer an_read_answer cd_read_answer ct_read_answer), sl_read_answer⟩)
    (c_read_answer : PySem.W.codeIn K cd_read_answer "read_answer" = true)
    (k_read_answer : PySem.W.keepIn K (.ref f_read_answer) = true)
    (a_move_in : PySem.W.nsIn K mainGlobals "move_in" = some (some (.ref f_move_in)))
    (l_move_in : K.lookup f_move_in = some ⟨oc_move_in, od_move_in, .func (PySem.W.fnOf "move_in" "move_in" (defArgs s_move_in) (defBody s_move_in) (defScope s_move_in) .none kV_move_in dc_move_in pm_move_in an_move_in cd_move_in ct_move_in), sl_move_in⟩)
    (c_move_in : PySem.W.codeIn K cd_move_in "move_in" = true)
    (k_move_in : PySem.W.keepIn K (.ref f_move_in) = true)
    (a_take_line : PySem.W.nsIn K mainGlobals "take_line" = some (some (.ref f_take_line)))
    (l_take_line : K.lookup f_take_line = some ⟨oc_take_line, od_take_line, .func (PySem.W.fnOf "take_line" "take_line" (defArgs s_take_line) (defBody s_take_line) (defScope s_take_line) .none kV_take_line dc_take_line pm_take_line an_take_line cd_take_line ct_take_line), sl_take_line⟩)
    (c_take_line : PySem.W.codeIn K cd_take_line "take_line" = true)
    (k_take_line : PySem.W.keepIn K (.ref f_take_line) = true)
    (a_whole_fault : PySem.W.nsIn K mainGlobals "whole_fault" = some (some (.ref f_whole_fault)))
    (l_whole_fault : K.lookup f_whole_fault = some ⟨oc_whole_fault, od_whole_fault, .func (PySem.W.fnOf "whole_fault" "whole_fault" (defArgs s_whole_fault) (defBody s_whole_fault) (defScope s_whole_fault) .none kV_whole_fault dc_whole_fault pm_whole_fault an_whole_fault cd_whole_fault ct_whole_fault), sl_whole_fault⟩)
    (c_whole_fault : PySem.W.codeIn K cd_whole_fault "whole_fault" = true)
    (k_whole_fault : PySem.W.keepIn K (.ref f_whole_fault) = true)
    (a_print_answer : PySem.W.nsIn K mainGlobals "print_answer" = some (some (.ref f_print_answer)))
    (l_print_answer : K.lookup f_print_answer = some ⟨oc_print_answer, od_print_answer, .func (PySem.W.fnOf "print_answer" "print_answer" (defArgs s_print_answer) (defBody s_print_answer) (defScope s_print_answer) .none kV_print_answer dc_print_answer pm_print_answer an_print_answer cd_print_answer ct_print_answer), sl_print_answer⟩)
    (c_print_answer : PySem.W.codeIn K cd_print_answer "print_answer" = true)
    (k_print_answer : PySem.W.keepIn K (.ref f_print_answer) = true)
    (a_facts_answer : PySem.W.nsIn K mainGlobals "facts_answer" = some (some (.ref f_facts_answer)))
    (l_facts_answer : K.lookup f_facts_answer = some ⟨oc_facts_answer, od_facts_answer, .func (PySem.W.fnOf "facts_answer" "facts_answer" (defArgs s_facts_answer) (defBody s_facts_answer) (defScope s_facts_answer) .none kV_facts_answer dc_facts_answer pm_facts_answer an_facts_answer cd_facts_answer ct_facts_answer), sl_facts_answer⟩)
    (c_facts_answer : PySem.W.codeIn K cd_facts_answer "facts_answer" = true)
    (k_facts_answer : PySem.W.keepIn K (.ref f_facts_answer) = true)
    (a_acts_answer : PySem.W.nsIn K mainGlobals "acts_answer" = some (some (.ref f_acts_answer)))
    (l_acts_answer : K.lookup f_acts_answer = some ⟨oc_acts_answer, od_acts_answer, .func (PySem.W.fnOf "acts_answer" "acts_answer" (defArgs s_acts_answer) (defBody s_acts_answer) (defScope s_acts_answer) .none kV_acts_answer dc_acts_answer pm_acts_answer an_acts_answer cd_acts_answer ct_acts_answer), sl_acts_answer⟩)
    (c_acts_answer : PySem.W.codeIn K cd_acts_answer "acts_answer" = true)
    (k_acts_answer : PySem.W.keepIn K (.ref f_acts_answer) = true)
    (a_cases_answer : PySem.W.nsIn K mainGlobals "cases_answer" = some (some (.ref f_cases_answer)))
    (l_cases_answer : K.lookup f_cases_answer = some ⟨oc_cases_answer, od_cases_answer, .func (PySem.W.fnOf "cases_answer" "cases_answer" (defArgs s_cases_answer) (defBody s_cases_answer) (defScope s_cases_answer) .none kV_cases_answer dc_cases_answer pm_cases_answer an_cases_answer cd_cases_answer ct_cases_answer), sl_cases_answer⟩)
    (c_cases_answer : PySem.W.codeIn K cd_cases_answer "cases_answer" = true)
    (k_cases_answer : PySem.W.keepIn K (.ref f_cases_answer) = true)
    (a_task_answer : PySem.W.nsIn K mainGlobals "task_answer" = some (some (.ref f_task_answer)))
    (l_task_answer : K.lookup f_task_answer = some ⟨oc_task_answer, od_task_answer, .func (PySem.W.fnOf "task_answer" "task_answer" (defArgs s_task_answer) (defBody s_task_answer) (defScope s_task_answer) .none kV_task_answer dc_task_answer pm_task_answer an_task_answer cd_task_answer ct_task_answer), sl_task_answer⟩)
    (c_task_answer : PySem.W.codeIn K cd_task_answer "task_answer" = true)
    (k_task_answer : PySem.W.keepIn K (.ref f_task_answer) = true)
    (a_act_answer : PySem.W.nsIn K mainGlobals "act_answer" = some (some (.ref f_act_answer)))
    (l_act_answer : K.lookup f_act_answer = some ⟨oc_act_answer, od_act_answer, .func (PySem.W.fnOf "act_answer" "act_answer" (defArgs s_act_answer) (defBody s_act_answer) (defScope s_act_answer) .none kV_act_answer dc_act_answer pm_act_answer an_act_answer cd_act_answer ct_act_answer), sl_act_answer⟩)
    (c_act_answer : PySem.W.codeIn K cd_act_answer "act_answer" = true)
    (k_act_answer : PySem.W.keepIn K (.ref f_act_answer) = true)
    (a_plan_answer : PySem.W.nsIn K mainGlobals "plan_answer" = some (some (.ref f_plan_answer)))
    (l_plan_answer : K.lookup f_plan_answer = some ⟨oc_plan_answer, od_plan_answer, .func (PySem.W.fnOf "plan_answer" "plan_answer" (defArgs s_plan_answer) (defBody s_plan_answer) (defScope s_plan_answer) .none kV_plan_answer dc_plan_answer pm_plan_answer an_plan_answer cd_plan_answer ct_plan_answer), sl_plan_answer⟩)
    (c_plan_answer : PySem.W.codeIn K cd_plan_answer "plan_answer" = true)
    (k_plan_answer : PySem.W.keepIn K (.ref f_plan_answer) = true)
    (a_fact_answer : PySem.W.nsIn K mainGlobals "fact_answer" = some (some (.ref f_fact_answer)))
    (l_fact_answer : K.lookup f_fact_answer = some ⟨oc_fact_answer, od_fact_answer, .func (PySem.W.fnOf "fact_answer" "fact_answer" (defArgs s_fact_answer) (defBody s_fact_answer) (defScope s_fact_answer) .none kV_fact_answer dc_fact_answer pm_fact_answer an_fact_answer cd_fact_answer ct_fact_answer), sl_fact_answer⟩)
    (c_fact_answer : PySem.W.codeIn K cd_fact_answer "fact_answer" = true)
    (k_fact_answer : PySem.W.keepIn K (.ref f_fact_answer) = true)
    (a_after_answer : PySem.W.nsIn K mainGlobals "after_answer" = some (some (.ref f_after_answer)))
    (l_after_answer : K.lookup f_after_answer = some ⟨oc_after_answer, od_after_answer, .func (PySem.W.fnOf "after_answer" "after_answer" (defArgs s_after_answer) (defBody s_after_answer) (defScope s_after_answer) .none kV_after_answer dc_after_answer pm_after_answer an_after_answer cd_after_answer ct_after_answer), sl_after_answer⟩)
    (c_after_answer : PySem.W.codeIn K cd_after_answer "after_answer" = true)
    (k_after_answer : PySem.W.keepIn K (.ref f_after_answer) = true)
    (a_answers : PySem.W.nsIn K mainGlobals "answers" = some (some (.ref f_answers)))
    (l_answers : K.lookup f_answers = some ⟨oc_answers, od_answers, .func (PySem.W.fnOf "answers" "answers" (defArgs s_answers) (defBody s_answers) (defScope s_answers) .none kV_answers dc_answers pm_answers an_answers cd_answers ct_answers), sl_answers⟩)
    (c_answers : PySem.W.codeIn K cd_answers "answers" = true)
    (k_answers : PySem.W.keepIn K (.ref f_answers) = true)
    (a_answer : PySem.W.nsIn K mainGlobals "answer" = some (some (.ref f_answer)))
    (l_answer : K.lookup f_answer = some ⟨oc_answer, od_answer, .func (PySem.W.fnOf "answer" "answer" (defArgs s_answer) (defBody s_answer) (defScope s_answer) .none kV_answer dc_answer pm_answer an_answer cd_answer ct_answer), sl_answer⟩)
    (c_answer : PySem.W.codeIn K cd_answer "answer" = true)
    (k_answer : PySem.W.keepIn K (.ref f_answer) = true)
    (z_len : PySem.W.nsIn K mainGlobals "len" = some none)
    (z_ord : PySem.W.nsIn K mainGlobals "ord" = some none)
    (z_any : PySem.W.nsIn K mainGlobals "any" = some none)
    (z_all : PySem.W.nsIn K mainGlobals "all" = some none)
    (z_zip : PySem.W.nsIn K mainGlobals "zip" = some none)
    (z_enumerate : PySem.W.nsIn K mainGlobals "enumerate" = some none)
    (z_int : PySem.W.nsIn K mainGlobals "int" = some none)
    (z_str : PySem.W.nsIn K mainGlobals "str" = some none)
    (z_list : PySem.W.nsIn K mainGlobals "list" = some none)
    (z_tuple : PySem.W.nsIn K mainGlobals "tuple" = some none)
    (z_dict : PySem.W.nsIn K mainGlobals "dict" = some none)
    (z_range : PySem.W.nsIn K mainGlobals "range" = some none)
    (z_min : PySem.W.nsIn K mainGlobals "min" = some none)
    (z_sum : PySem.W.nsIn K mainGlobals "sum" = some none)
    (v_LINE_END : PySem.W.nsIn K mainGlobals "LINE_END" = some (some (.int 10 t_LINE_END)))
    (v_BLANK : PySem.W.nsIn K mainGlobals "BLANK" = some (some (.int 32 t_BLANK)))
    (v_LAST_SIGN : PySem.W.nsIn K mainGlobals "LAST_SIGN" = some (some (.int 126 t_LAST_SIGN)))
    (v_MOST_SIGNS : PySem.W.nsIn K mainGlobals "MOST_SIGNS" = some (some (.int 60 t_MOST_SIGNS)))
    (v_MOST_NAME_SIGNS : PySem.W.nsIn K mainGlobals "MOST_NAME_SIGNS" = some (some (.int 8 t_MOST_NAME_SIGNS)))
    (v_MOST_COST_SIGNS : PySem.W.nsIn K mainGlobals "MOST_COST_SIGNS" = some (some (.int 3 t_MOST_COST_SIGNS)))
    (v_LETTERS : PySem.W.nsIn K mainGlobals "LETTERS" = some (some (.str "abcdefghijklmnopqrstuvwxyz" t_LETTERS)))
    (v_DIGITS : PySem.W.nsIn K mainGlobals "DIGITS" = some (some (.str "0123456789" t_DIGITS)))
    (v_OTHER_SIGN : PySem.W.nsIn K mainGlobals "OTHER_SIGN" = some (some (.str "?" t_OTHER_SIGN)))
    (v_NO_FAULT : PySem.W.nsIn K mainGlobals "NO_FAULT" = some (some (.int 0 t_NO_FAULT)))
    (v_MOST_FACTS : PySem.W.nsIn K mainGlobals "MOST_FACTS" = some (some (.int 8 t_MOST_FACTS)))
    (v_MOST_ACTS : PySem.W.nsIn K mainGlobals "MOST_ACTS" = some (some (.int 12 t_MOST_ACTS)))
    (v_WRONG_TEXT : PySem.W.nsIn K mainGlobals "WRONG_TEXT" = some (some (.int (-1) t_WRONG_TEXT)))
    (v_NONE_SUCH : PySem.W.nsIn K mainGlobals "NONE_SUCH" = some (some (.int (-2) t_NONE_SUCH)))
    (v_NOT_TO_BE_DONE : PySem.W.nsIn K mainGlobals "NOT_TO_BE_DONE" = some (some (.int (-5) t_NOT_TO_BE_DONE)))
    (v_NO_PLAN : PySem.W.nsIn K mainGlobals "NO_PLAN" = some (some (.int (-6) t_NO_PLAN)))
    (v_READ : PySem.W.nsIn K mainGlobals "READ" = some (some (.int 0 t_READ)))
    (v_PRINT : PySem.W.nsIn K mainGlobals "PRINT" = some (some (.int 1 t_PRINT)))
    (v_FACTS : PySem.W.nsIn K mainGlobals "FACTS" = some (some (.int 2 t_FACTS)))
    (v_ACTS : PySem.W.nsIn K mainGlobals "ACTS" = some (some (.int 3 t_ACTS)))
    (v_TASK : PySem.W.nsIn K mainGlobals "TASK" = some (some (.int 4 t_TASK)))
    (v_ACT : PySem.W.nsIn K mainGlobals "ACT" = some (some (.int 5 t_ACT)))
    (v_PLAN : PySem.W.nsIn K mainGlobals "PLAN" = some (some (.int 6 t_PLAN)))
    (v_FACT : PySem.W.nsIn K mainGlobals "FACT" = some (some (.int 7 t_FACT)))
    (v_AFTER : PySem.W.nsIn K mainGlobals "AFTER" = some (some (.int 8 t_AFTER)))
    (g_ROLES : PySem.W.nsIn K mainGlobals "ROLES" = some (some (.ref d_ROLES)))
    (l_ROLES : K.lookup d_ROLES = some ⟨.type "dict", none, .dict es_ROLES en_ROLES, #[]⟩)
    (kl_ROLES : PySem.W.KeysLit w.params es_ROLES.toList)
    (e_ROLES_kind : PySem.W.nsIn K d_ROLES "kind" = some (some (.ref p_ROLES_kind)))
    (x_ROLES_kind : K.lookup p_ROLES_kind = some ⟨.type "tuple", q_ROLES_kind, .seq u_ROLES_kind m_ROLES_kind, w_ROLES_kind⟩)
    (y_ROLES_kind : Vals [V.str "name"] u_ROLES_kind.toList)
    (s_ROLES_kind_z : u_ROLES_kind.size ≤ sizeLine)
    (e_ROLES_thing : PySem.W.nsIn K d_ROLES "thing" = some (some (.ref p_ROLES_thing)))
    (x_ROLES_thing : K.lookup p_ROLES_thing = some ⟨.type "tuple", q_ROLES_thing, .seq u_ROLES_thing m_ROLES_thing, w_ROLES_thing⟩)
    (y_ROLES_thing : Vals [V.str "name", V.str "kind"] u_ROLES_thing.toList)
    (s_ROLES_thing_z : u_ROLES_thing.size ≤ sizeLine)
    (e_ROLES_fact : PySem.W.nsIn K d_ROLES "fact" = some (some (.ref p_ROLES_fact)))
    (x_ROLES_fact : K.lookup p_ROLES_fact = some ⟨.type "tuple", q_ROLES_fact, .seq u_ROLES_fact m_ROLES_fact, w_ROLES_fact⟩)
    (y_ROLES_fact : Vals [V.str "name", V.str "kind", V.str "kind"] u_ROLES_fact.toList)
    (s_ROLES_fact_z : u_ROLES_fact.size ≤ sizeLine)
    (e_ROLES_act : PySem.W.nsIn K d_ROLES "act" = some (some (.ref p_ROLES_act)))
    (x_ROLES_act : K.lookup p_ROLES_act = some ⟨.type "tuple", q_ROLES_act, .seq u_ROLES_act m_ROLES_act, w_ROLES_act⟩)
    (y_ROLES_act : Vals [V.str "name", V.str "cost", V.str "place", V.str "kind", V.str "place", V.str "kind"] u_ROLES_act.toList)
    (s_ROLES_act_z : u_ROLES_act.size ≤ sizeLine)
    (e_ROLES_needs : PySem.W.nsIn K d_ROLES "needs" = some (some (.ref p_ROLES_needs)))
    (x_ROLES_needs : K.lookup p_ROLES_needs = some ⟨.type "tuple", q_ROLES_needs, .seq u_ROLES_needs m_ROLES_needs, w_ROLES_needs⟩)
    (y_ROLES_needs : Vals [V.str "fact", V.str "argument", V.str "argument"] u_ROLES_needs.toList)
    (s_ROLES_needs_z : u_ROLES_needs.size ≤ sizeLine)
    (e_ROLES_bars : PySem.W.nsIn K d_ROLES "bars" = some (some (.ref p_ROLES_bars)))
    (x_ROLES_bars : K.lookup p_ROLES_bars = some ⟨.type "tuple", q_ROLES_bars, .seq u_ROLES_bars m_ROLES_bars, w_ROLES_bars⟩)
    (y_ROLES_bars : Vals [V.str "fact", V.str "argument", V.str "argument"] u_ROLES_bars.toList)
    (s_ROLES_bars_z : u_ROLES_bars.size ≤ sizeLine)
    (e_ROLES_brings : PySem.W.nsIn K d_ROLES "brings" = some (some (.ref p_ROLES_brings)))
    (x_ROLES_brings : K.lookup p_ROLES_brings = some ⟨.type "tuple", q_ROLES_brings, .seq u_ROLES_brings m_ROLES_brings, w_ROLES_brings⟩)
    (y_ROLES_brings : Vals [V.str "fact", V.str "argument", V.str "argument"] u_ROLES_brings.toList)
    (s_ROLES_brings_z : u_ROLES_brings.size ≤ sizeLine)
    (e_ROLES_takes : PySem.W.nsIn K d_ROLES "takes" = some (some (.ref p_ROLES_takes)))
    (x_ROLES_takes : K.lookup p_ROLES_takes = some ⟨.type "tuple", q_ROLES_takes, .seq u_ROLES_takes m_ROLES_takes, w_ROLES_takes⟩)
    (y_ROLES_takes : Vals [V.str "fact", V.str "argument", V.str "argument"] u_ROLES_takes.toList)
    (s_ROLES_takes_z : u_ROLES_takes.size ≤ sizeLine)
    (e_ROLES_now : PySem.W.nsIn K d_ROLES "now" = some (some (.ref p_ROLES_now)))
    (x_ROLES_now : K.lookup p_ROLES_now = some ⟨.type "tuple", q_ROLES_now, .seq u_ROLES_now m_ROLES_now, w_ROLES_now⟩)
    (y_ROLES_now : Vals [V.str "fact", V.str "thing", V.str "thing"] u_ROLES_now.toList)
    (s_ROLES_now_z : u_ROLES_now.size ≤ sizeLine)
    (e_ROLES_want : PySem.W.nsIn K d_ROLES "want" = some (some (.ref p_ROLES_want)))
    (x_ROLES_want : K.lookup p_ROLES_want = some ⟨.type "tuple", q_ROLES_want, .seq u_ROLES_want m_ROLES_want, w_ROLES_want⟩)
    (y_ROLES_want : Vals [V.str "fact", V.str "thing", V.str "thing"] u_ROLES_want.toList)
    (s_ROLES_want_z : u_ROLES_want.size ≤ sizeLine)
    (g_WORD_COUNTS : PySem.W.nsIn K mainGlobals "WORD_COUNTS" = some (some (.ref d_WORD_COUNTS)))
    (l_WORD_COUNTS : K.lookup d_WORD_COUNTS = some ⟨.type "dict", none, .dict es_WORD_COUNTS en_WORD_COUNTS, #[]⟩)
    (kl_WORD_COUNTS : PySem.W.KeysLit w.params es_WORD_COUNTS.toList)
    (kn_WORD_COUNTS : keyNames es_WORD_COUNTS.toList = some (["kind", "thing", "fact", "act", "needs", "bars", "brings", "takes", "now", "want"] : List Str))
    (lo_WORD_COUNTS : (d_WORD_COUNTS == sysModules) = false)
    (e_WORD_COUNTS_kind : PySem.W.nsIn K d_WORD_COUNTS "kind" = some (some (.ref p_WORD_COUNTS_kind)))
    (x_WORD_COUNTS_kind : K.lookup p_WORD_COUNTS_kind = some ⟨.type "tuple", q_WORD_COUNTS_kind, .seq u_WORD_COUNTS_kind m_WORD_COUNTS_kind, w_WORD_COUNTS_kind⟩)
    (y_WORD_COUNTS_kind : Vals [V.int 2] u_WORD_COUNTS_kind.toList)
    (s_WORD_COUNTS_kind_z : u_WORD_COUNTS_kind.size ≤ sizeLine)
    (e_WORD_COUNTS_thing : PySem.W.nsIn K d_WORD_COUNTS "thing" = some (some (.ref p_WORD_COUNTS_thing)))
    (x_WORD_COUNTS_thing : K.lookup p_WORD_COUNTS_thing = some ⟨.type "tuple", q_WORD_COUNTS_thing, .seq u_WORD_COUNTS_thing m_WORD_COUNTS_thing, w_WORD_COUNTS_thing⟩)
    (y_WORD_COUNTS_thing : Vals [V.int 3] u_WORD_COUNTS_thing.toList)
    (s_WORD_COUNTS_thing_z : u_WORD_COUNTS_thing.size ≤ sizeLine)
    (e_WORD_COUNTS_fact : PySem.W.nsIn K d_WORD_COUNTS "fact" = some (some (.ref p_WORD_COUNTS_fact)))
    (x_WORD_COUNTS_fact : K.lookup p_WORD_COUNTS_fact = some ⟨.type "tuple", q_WORD_COUNTS_fact, .seq u_WORD_COUNTS_fact m_WORD_COUNTS_fact, w_WORD_COUNTS_fact⟩)
    (y_WORD_COUNTS_fact : Vals [V.int 2, V.int 3, V.int 4] u_WORD_COUNTS_fact.toList)
    (s_WORD_COUNTS_fact_z : u_WORD_COUNTS_fact.size ≤ sizeLine)
    (e_WORD_COUNTS_act : PySem.W.nsIn K d_WORD_COUNTS "act" = some (some (.ref p_WORD_COUNTS_act)))
    (x_WORD_COUNTS_act : K.lookup p_WORD_COUNTS_act = some ⟨.type "tuple", q_WORD_COUNTS_act, .seq u_WORD_COUNTS_act m_WORD_COUNTS_act, w_WORD_COUNTS_act⟩)
    (y_WORD_COUNTS_act : Vals [V.int 3, V.int 5, V.int 7] u_WORD_COUNTS_act.toList)
    (s_WORD_COUNTS_act_z : u_WORD_COUNTS_act.size ≤ sizeLine)
    (e_WORD_COUNTS_needs : PySem.W.nsIn K d_WORD_COUNTS "needs" = some (some (.ref p_WORD_COUNTS_needs)))
    (x_WORD_COUNTS_needs : K.lookup p_WORD_COUNTS_needs = some ⟨.type "tuple", q_WORD_COUNTS_needs, .seq u_WORD_COUNTS_needs m_WORD_COUNTS_needs, w_WORD_COUNTS_needs⟩)
    (y_WORD_COUNTS_needs : Vals [V.int 2, V.int 3, V.int 4] u_WORD_COUNTS_needs.toList)
    (s_WORD_COUNTS_needs_z : u_WORD_COUNTS_needs.size ≤ sizeLine)
    (e_WORD_COUNTS_bars : PySem.W.nsIn K d_WORD_COUNTS "bars" = some (some (.ref p_WORD_COUNTS_bars)))
    (x_WORD_COUNTS_bars : K.lookup p_WORD_COUNTS_bars = some ⟨.type "tuple", q_WORD_COUNTS_bars, .seq u_WORD_COUNTS_bars m_WORD_COUNTS_bars, w_WORD_COUNTS_bars⟩)
    (y_WORD_COUNTS_bars : Vals [V.int 2, V.int 3, V.int 4] u_WORD_COUNTS_bars.toList)
    (s_WORD_COUNTS_bars_z : u_WORD_COUNTS_bars.size ≤ sizeLine)
    (e_WORD_COUNTS_brings : PySem.W.nsIn K d_WORD_COUNTS "brings" = some (some (.ref p_WORD_COUNTS_brings)))
    (x_WORD_COUNTS_brings : K.lookup p_WORD_COUNTS_brings = some ⟨.type "tuple", q_WORD_COUNTS_brings, .seq u_WORD_COUNTS_brings m_WORD_COUNTS_brings, w_WORD_COUNTS_brings⟩)
    (y_WORD_COUNTS_brings : Vals [V.int 2, V.int 3, V.int 4] u_WORD_COUNTS_brings.toList)
    (s_WORD_COUNTS_brings_z : u_WORD_COUNTS_brings.size ≤ sizeLine)
    (e_WORD_COUNTS_takes : PySem.W.nsIn K d_WORD_COUNTS "takes" = some (some (.ref p_WORD_COUNTS_takes)))
    (x_WORD_COUNTS_takes : K.lookup p_WORD_COUNTS_takes = some ⟨.type "tuple", q_WORD_COUNTS_takes, .seq u_WORD_COUNTS_takes m_WORD_COUNTS_takes, w_WORD_COUNTS_takes⟩)
    (y_WORD_COUNTS_takes : Vals [V.int 2, V.int 3, V.int 4] u_WORD_COUNTS_takes.toList)
    (s_WORD_COUNTS_takes_z : u_WORD_COUNTS_takes.size ≤ sizeLine)
    (e_WORD_COUNTS_now : PySem.W.nsIn K d_WORD_COUNTS "now" = some (some (.ref p_WORD_COUNTS_now)))
    (x_WORD_COUNTS_now : K.lookup p_WORD_COUNTS_now = some ⟨.type "tuple", q_WORD_COUNTS_now, .seq u_WORD_COUNTS_now m_WORD_COUNTS_now, w_WORD_COUNTS_now⟩)
    (y_WORD_COUNTS_now : Vals [V.int 2, V.int 3, V.int 4] u_WORD_COUNTS_now.toList)
    (s_WORD_COUNTS_now_z : u_WORD_COUNTS_now.size ≤ sizeLine)
    (e_WORD_COUNTS_want : PySem.W.nsIn K d_WORD_COUNTS "want" = some (some (.ref p_WORD_COUNTS_want)))
    (x_WORD_COUNTS_want : K.lookup p_WORD_COUNTS_want = some ⟨.type "tuple", q_WORD_COUNTS_want, .seq u_WORD_COUNTS_want m_WORD_COUNTS_want, w_WORD_COUNTS_want⟩)
    (y_WORD_COUNTS_want : Vals [V.int 2, V.int 3, V.int 4] u_WORD_COUNTS_want.toList)
    (s_WORD_COUNTS_want_z : u_WORD_COUNTS_want.size ≤ sizeLine)
    (g_MOST : PySem.W.nsIn K mainGlobals "MOST" = some (some (.ref d_MOST)))
    (l_MOST : K.lookup d_MOST = some ⟨.type "dict", none, .dict es_MOST en_MOST, #[]⟩)
    (kl_MOST : PySem.W.KeysLit w.params es_MOST.toList)
    (e_MOST_kind : PySem.W.nsIn K d_MOST "kind" = some (some (.int 3 t_MOST_kind)))
    (e_MOST_thing : PySem.W.nsIn K d_MOST "thing" = some (some (.int 6 t_MOST_thing)))
    (e_MOST_fact : PySem.W.nsIn K d_MOST "fact" = some (some (.int 4 t_MOST_fact)))
    (e_MOST_act : PySem.W.nsIn K d_MOST "act" = some (some (.int 4 t_MOST_act)))
    (e_MOST_needs : PySem.W.nsIn K d_MOST "needs" = some (some (.int 6 t_MOST_needs)))
    (e_MOST_bars : PySem.W.nsIn K d_MOST "bars" = some (some (.int 6 t_MOST_bars)))
    (e_MOST_brings : PySem.W.nsIn K d_MOST "brings" = some (some (.int 6 t_MOST_brings)))
    (e_MOST_takes : PySem.W.nsIn K d_MOST "takes" = some (some (.int 6 t_MOST_takes)))
    (e_MOST_now : PySem.W.nsIn K d_MOST "now" = some (some (.int 12 t_MOST_now)))
    (e_MOST_want : PySem.W.nsIn K d_MOST "want" = some (some (.int 12 t_MOST_want)))
    (g_OF : PySem.W.nsIn K mainGlobals "OF_AN_ACT" = some (some (.ref p_OF)))
    (x_OF : K.lookup p_OF = some ⟨.type "tuple", q_OF, .seq u_OF m_OF, w_OF⟩)
    (y_OF : Vals [V.str "needs", V.str "bars", V.str "brings", V.str "takes"] u_OF.toList)
    (s_OF_z : u_OF.size ≤ sizeLine)
    : ∃ fd : FuncData, (∀ (s : Shared) (us : List Value), us.length = (["calls"] : List Str).length → BindsTo s fd ⟨us, []⟩ ((["calls"] : List Str).zip us)) ∧ ∀ base : Heap, K.In base → base.Ns mainGlobals mg → LamX.TabB base mg c0 T → FnOk Pr w K mg base CX0 8 fa fd ["calls"] (spAns K T) := by
  have e := hfa.symm.trans (PySem.W.mg_of X G a_answers)
  cases e
  have O : Own mg := ⟨PySem.W.mg_none_of X G z_len, PySem.W.mg_none_of X G z_ord, PySem.W.mg_none_of X G z_any, PySem.W.mg_none_of X G z_all, PySem.W.mg_none_of X G z_zip, PySem.W.mg_none_of X G z_enumerate, PySem.W.mg_none_of X G z_int, PySem.W.mg_none_of X G z_str, PySem.W.mg_none_of X G z_list, PySem.W.mg_none_of X G z_tuple, PySem.W.mg_none_of X G z_dict, PySem.W.mg_none_of X G z_range, PySem.W.mg_none_of X G z_min, PySem.W.mg_none_of X G z_sum, ⟨_, PySem.W.mg_of X G v_LINE_END⟩, ⟨_, PySem.W.mg_of X G v_BLANK⟩, ⟨_, PySem.W.mg_of X G v_LAST_SIGN⟩, ⟨_, PySem.W.mg_of X G v_MOST_SIGNS⟩, ⟨_, PySem.W.mg_of X G v_MOST_NAME_SIGNS⟩, ⟨_, PySem.W.mg_of X G v_MOST_COST_SIGNS⟩, ⟨_, PySem.W.mg_of X G v_LETTERS⟩, ⟨_, PySem.W.mg_of X G v_DIGITS⟩, ⟨_, PySem.W.mg_of X G v_OTHER_SIGN⟩⟩
  have O2 : Own2 mg := ⟨⟨_, PySem.W.mg_of X G v_MOST_FACTS⟩, ⟨_, PySem.W.mg_of X G v_MOST_ACTS⟩, ⟨_, PySem.W.mg_of X G v_WRONG_TEXT⟩, ⟨_, PySem.W.mg_of X G v_NONE_SUCH⟩, ⟨_, PySem.W.mg_of X G v_NOT_TO_BE_DONE⟩, ⟨_, PySem.W.mg_of X G v_NO_PLAN⟩⟩
  have O3 : Own3 mg := ⟨⟨_, PySem.W.mg_of X G v_READ⟩, ⟨_, PySem.W.mg_of X G v_PRINT⟩, ⟨_, PySem.W.mg_of X G v_FACTS⟩, ⟨_, PySem.W.mg_of X G v_ACTS⟩, ⟨_, PySem.W.mg_of X G v_TASK⟩, ⟨_, PySem.W.mg_of X G v_ACT⟩, ⟨_, PySem.W.mg_of X G v_PLAN⟩, ⟨_, PySem.W.mg_of X G v_FACT⟩, ⟨_, PySem.W.mg_of X G v_AFTER⟩⟩
  have C : Clss K CT CA := ⟨⟨pg_CT, hd_CT, po_CT, sa_CT⟩, n_CT_kinds, n_CT_things, n_CT_thing_kinds, n_CT_facts, n_CT_fact_kinds, n_CT_acts, n_CT_now, n_CT_want, ⟨pg_CA, hd_CA, po_CA, sa_CA⟩, n_CA_name, n_CA_cost, n_CA_places, n_CA_kinds, n_CA_claims⟩
  have HC : HCls K CT CA CH CD := ⟨⟨pg_CH, hd_CH, po_CH, sa_CH⟩, n_CH_text, n_CH_facts, n_CH_acts, n_CH_deeds, n_CH_first, n_CH_wanted, d_TH, d_AH, d_DH⟩
  have DC : DCls K CD := ⟨⟨pg_CD, hd_CD, po_CD, sa_CD⟩, n_CD_words, n_CD_cost, n_CD_needs, n_CD_bars, n_CD_brings, n_CD_takes⟩
  have R : Raws K w d_ROLES d_WORD_COUNTS d_MOST es_ROLES es_WORD_COUNTS es_MOST en_ROLES en_WORD_COUNTS en_MOST (fun i => [p_ROLES_kind, p_ROLES_thing, p_ROLES_fact, p_ROLES_act, p_ROLES_needs, p_ROLES_bars, p_ROLES_brings, p_ROLES_takes, p_ROLES_now, p_ROLES_want].getD i 0) (fun i => [p_WORD_COUNTS_kind, p_WORD_COUNTS_thing, p_WORD_COUNTS_fact, p_WORD_COUNTS_act, p_WORD_COUNTS_needs, p_WORD_COUNTS_bars, p_WORD_COUNTS_brings, p_WORD_COUNTS_takes, p_WORD_COUNTS_now, p_WORD_COUNTS_want].getD i 0) := by
    refine ⟨l_ROLES, kl_ROLES, l_WORD_COUNTS, kl_WORD_COUNTS, kn_WORD_COUNTS, lo_WORD_COUNTS, l_MOST, kl_MOST, fun i f h => ?_, fun i f h => ?_, fun i f h => ?_⟩
    · match i, h with
      | 0, h =>
        have e : kKind = f := Option.some.inj h
        subst e
        refine ⟨by rw [← key_kind]; exact e_ROLES_kind, ⟨_, _, _, _, x_ROLES_kind, s_ROLES_kind_z, ?_⟩⟩
        rw [show rolesOf kKind = [rName] by decide]
        show Vals [V.str (S rName)] _
        rw [← txt_name]
        exact y_ROLES_kind
      | 1, h =>
        have e : kThing = f := Option.some.inj h
        subst e
        refine ⟨by rw [← key_thing]; exact e_ROLES_thing, ⟨_, _, _, _, x_ROLES_thing, s_ROLES_thing_z, ?_⟩⟩
        rw [show rolesOf kThing = [rName, kKind] by decide]
        show Vals [V.str (S rName), V.str (S kKind)] _
        rw [← txt_name, ← key_kind]
        exact y_ROLES_thing
      | 2, h =>
        have e : kFact = f := Option.some.inj h
        subst e
        refine ⟨by rw [← key_fact]; exact e_ROLES_fact, ⟨_, _, _, _, x_ROLES_fact, s_ROLES_fact_z, ?_⟩⟩
        rw [show rolesOf kFact = [rName, kKind, kKind] by decide]
        show Vals [V.str (S rName), V.str (S kKind), V.str (S kKind)] _
        rw [← txt_name, ← key_kind]
        exact y_ROLES_fact
      | 3, h =>
        have e : kAct = f := Option.some.inj h
        subst e
        refine ⟨by rw [← key_act]; exact e_ROLES_act, ⟨_, _, _, _, x_ROLES_act, s_ROLES_act_z, ?_⟩⟩
        rw [show rolesOf kAct = [rName, rCost, rPlace, kKind, rPlace, kKind] by decide]
        show Vals [V.str (S rName), V.str (S rCost), V.str (S rPlace), V.str (S kKind), V.str (S rPlace), V.str (S kKind)] _
        rw [← txt_name, ← key_cost, ← txt_place, ← key_kind]
        exact y_ROLES_act
      | 4, h =>
        have e : kNeeds = f := Option.some.inj h
        subst e
        refine ⟨by rw [← key_needs]; exact e_ROLES_needs, ⟨_, _, _, _, x_ROLES_needs, s_ROLES_needs_z, ?_⟩⟩
        rw [show rolesOf kNeeds = [kFact, rArg, rArg] by decide]
        show Vals [V.str (S kFact), V.str (S rArg), V.str (S rArg)] _
        rw [← key_fact, ← key_argument]
        exact y_ROLES_needs
      | 5, h =>
        have e : kBars = f := Option.some.inj h
        subst e
        refine ⟨by rw [← key_bars]; exact e_ROLES_bars, ⟨_, _, _, _, x_ROLES_bars, s_ROLES_bars_z, ?_⟩⟩
        rw [show rolesOf kBars = [kFact, rArg, rArg] by decide]
        show Vals [V.str (S kFact), V.str (S rArg), V.str (S rArg)] _
        rw [← key_fact, ← key_argument]
        exact y_ROLES_bars
      | 6, h =>
        have e : kBrings = f := Option.some.inj h
        subst e
        refine ⟨by rw [← key_brings]; exact e_ROLES_brings, ⟨_, _, _, _, x_ROLES_brings, s_ROLES_brings_z, ?_⟩⟩
        rw [show rolesOf kBrings = [kFact, rArg, rArg] by decide]
        show Vals [V.str (S kFact), V.str (S rArg), V.str (S rArg)] _
        rw [← key_fact, ← key_argument]
        exact y_ROLES_brings
      | 7, h =>
        have e : kTakes = f := Option.some.inj h
        subst e
        refine ⟨by rw [← key_takes]; exact e_ROLES_takes, ⟨_, _, _, _, x_ROLES_takes, s_ROLES_takes_z, ?_⟩⟩
        rw [show rolesOf kTakes = [kFact, rArg, rArg] by decide]
        show Vals [V.str (S kFact), V.str (S rArg), V.str (S rArg)] _
        rw [← key_fact, ← key_argument]
        exact y_ROLES_takes
      | 8, h =>
        have e : kNow = f := Option.some.inj h
        subst e
        refine ⟨by rw [← key_now]; exact e_ROLES_now, ⟨_, _, _, _, x_ROLES_now, s_ROLES_now_z, ?_⟩⟩
        rw [show rolesOf kNow = [kFact, kThing, kThing] by decide]
        show Vals [V.str (S kFact), V.str (S kThing), V.str (S kThing)] _
        rw [← key_fact, ← key_thing]
        exact y_ROLES_now
      | 9, h =>
        have e : kWant = f := Option.some.inj h
        subst e
        refine ⟨by rw [← key_want]; exact e_ROLES_want, ⟨_, _, _, _, x_ROLES_want, s_ROLES_want_z, ?_⟩⟩
        rw [show rolesOf kWant = [kFact, kThing, kThing] by decide]
        show Vals [V.str (S kFact), V.str (S kThing), V.str (S kThing)] _
        rw [← key_fact, ← key_thing]
        exact y_ROLES_want
      | i + 10, h => simp [tens] at h
    · match i, h with
      | 0, h =>
        have e : kKind = f := Option.some.inj h
        subst e
        refine ⟨by rw [← key_kind]; exact e_WORD_COUNTS_kind, ⟨_, _, _, _, x_WORD_COUNTS_kind, s_WORD_COUNTS_kind_z, ?_⟩⟩
        rw [show countsOf kKind = some [2] by decide]
        exact y_WORD_COUNTS_kind
      | 1, h =>
        have e : kThing = f := Option.some.inj h
        subst e
        refine ⟨by rw [← key_thing]; exact e_WORD_COUNTS_thing, ⟨_, _, _, _, x_WORD_COUNTS_thing, s_WORD_COUNTS_thing_z, ?_⟩⟩
        rw [show countsOf kThing = some [3] by decide]
        exact y_WORD_COUNTS_thing
      | 2, h =>
        have e : kFact = f := Option.some.inj h
        subst e
        refine ⟨by rw [← key_fact]; exact e_WORD_COUNTS_fact, ⟨_, _, _, _, x_WORD_COUNTS_fact, s_WORD_COUNTS_fact_z, ?_⟩⟩
        rw [show countsOf kFact = some [2, 3, 4] by decide]
        exact y_WORD_COUNTS_fact
      | 3, h =>
        have e : kAct = f := Option.some.inj h
        subst e
        refine ⟨by rw [← key_act]; exact e_WORD_COUNTS_act, ⟨_, _, _, _, x_WORD_COUNTS_act, s_WORD_COUNTS_act_z, ?_⟩⟩
        rw [show countsOf kAct = some [3, 5, 7] by decide]
        exact y_WORD_COUNTS_act
      | 4, h =>
        have e : kNeeds = f := Option.some.inj h
        subst e
        refine ⟨by rw [← key_needs]; exact e_WORD_COUNTS_needs, ⟨_, _, _, _, x_WORD_COUNTS_needs, s_WORD_COUNTS_needs_z, ?_⟩⟩
        rw [show countsOf kNeeds = some [2, 3, 4] by decide]
        exact y_WORD_COUNTS_needs
      | 5, h =>
        have e : kBars = f := Option.some.inj h
        subst e
        refine ⟨by rw [← key_bars]; exact e_WORD_COUNTS_bars, ⟨_, _, _, _, x_WORD_COUNTS_bars, s_WORD_COUNTS_bars_z, ?_⟩⟩
        rw [show countsOf kBars = some [2, 3, 4] by decide]
        exact y_WORD_COUNTS_bars
      | 6, h =>
        have e : kBrings = f := Option.some.inj h
        subst e
        refine ⟨by rw [← key_brings]; exact e_WORD_COUNTS_brings, ⟨_, _, _, _, x_WORD_COUNTS_brings, s_WORD_COUNTS_brings_z, ?_⟩⟩
        rw [show countsOf kBrings = some [2, 3, 4] by decide]
        exact y_WORD_COUNTS_brings
      | 7, h =>
        have e : kTakes = f := Option.some.inj h
        subst e
        refine ⟨by rw [← key_takes]; exact e_WORD_COUNTS_takes, ⟨_, _, _, _, x_WORD_COUNTS_takes, s_WORD_COUNTS_takes_z, ?_⟩⟩
        rw [show countsOf kTakes = some [2, 3, 4] by decide]
        exact y_WORD_COUNTS_takes
      | 8, h =>
        have e : kNow = f := Option.some.inj h
        subst e
        refine ⟨by rw [← key_now]; exact e_WORD_COUNTS_now, ⟨_, _, _, _, x_WORD_COUNTS_now, s_WORD_COUNTS_now_z, ?_⟩⟩
        rw [show countsOf kNow = some [2, 3, 4] by decide]
        exact y_WORD_COUNTS_now
      | 9, h =>
        have e : kWant = f := Option.some.inj h
        subst e
        refine ⟨by rw [← key_want]; exact e_WORD_COUNTS_want, ⟨_, _, _, _, x_WORD_COUNTS_want, s_WORD_COUNTS_want_z, ?_⟩⟩
        rw [show countsOf kWant = some [2, 3, 4] by decide]
        exact y_WORD_COUNTS_want
      | i + 10, h => simp [tens] at h
    · match i, h with
      | 0, h =>
        have e : kKind = f := Option.some.inj h
        subst e
        exact ⟨_, by rw [← key_kind, show mostOf kKind = 3 by decide]; exact e_MOST_kind⟩
      | 1, h =>
        have e : kThing = f := Option.some.inj h
        subst e
        exact ⟨_, by rw [← key_thing, show mostOf kThing = 6 by decide]; exact e_MOST_thing⟩
      | 2, h =>
        have e : kFact = f := Option.some.inj h
        subst e
        exact ⟨_, by rw [← key_fact, show mostOf kFact = 4 by decide]; exact e_MOST_fact⟩
      | 3, h =>
        have e : kAct = f := Option.some.inj h
        subst e
        exact ⟨_, by rw [← key_act, show mostOf kAct = 4 by decide]; exact e_MOST_act⟩
      | 4, h =>
        have e : kNeeds = f := Option.some.inj h
        subst e
        exact ⟨_, by rw [← key_needs, show mostOf kNeeds = 6 by decide]; exact e_MOST_needs⟩
      | 5, h =>
        have e : kBars = f := Option.some.inj h
        subst e
        exact ⟨_, by rw [← key_bars, show mostOf kBars = 6 by decide]; exact e_MOST_bars⟩
      | 6, h =>
        have e : kBrings = f := Option.some.inj h
        subst e
        exact ⟨_, by rw [← key_brings, show mostOf kBrings = 6 by decide]; exact e_MOST_brings⟩
      | 7, h =>
        have e : kTakes = f := Option.some.inj h
        subst e
        exact ⟨_, by rw [← key_takes, show mostOf kTakes = 6 by decide]; exact e_MOST_takes⟩
      | 8, h =>
        have e : kNow = f := Option.some.inj h
        subst e
        exact ⟨_, by rw [← key_now, show mostOf kNow = 12 by decide]; exact e_MOST_now⟩
      | 9, h =>
        have e : kWant = f := Option.some.inj h
        subst e
        exact ⟨_, by rw [← key_want, show mostOf kWant = 12 by decide]; exact e_MOST_want⟩
      | i + 10, h => simp [tens] at h
  have TB : Tabs K w mg d_ROLES d_WORD_COUNTS d_MOST p_OF := tabs_of R (PySem.W.mg_of X G g_ROLES) (PySem.W.mg_of X G g_WORD_COUNTS) (PySem.W.mg_of X G g_MOST) (PySem.W.mg_of X G g_OF) ⟨_, PySem.W.mg_of X G v_NO_FAULT⟩ ⟨_, _, _, _, x_OF, s_OF_z, by
    show Vals [V.str (S kNeeds), V.str (S kBars), V.str (S kBrings), V.str (S kTakes)] _
    rw [← key_needs, ← key_bars, ← key_brings, ← key_takes]
    exact y_OF⟩
  have F_textInit := fun_mk (st := s_textInit) l_textInit c_textInit k_textInit
  have F_actInit := fun_mk (st := s_actInit) l_actInit c_actInit k_actInit
  have F_houseInit := fun_mk (st := s_houseInit) l_houseInit c_houseInit k_houseInit
  have F_deedInit := fun_mk (st := s_deedInit) l_deedInit c_deedInit k_deedInit
  refine ⟨PySem.W.fnOf "answers" "answers" (defArgs s_answers) (defBody s_answers) (defScope s_answers) .none kV_answers dc_answers pm_answers an_answers cd_answers ct_answers, fun s us hu => match us, hu with | [_], _ => .of_eq rfl, fun base _ _ TC => ?_⟩
  have MT : Made Pr w K mg base "Text" CT ["self"] (sp_textInit CT CA) := ⟨⟨_, _, ⟨mk_CT, a_textInit, i_textInit, kc_CT⟩, ok_textInit F_textInit C, F_textInit.binds (ps := ["self"]) fun _ _ _ _ _ _ us hl => match us, hl with | [_], _ => rfl⟩, PySem.W.mg_of X G g_CT⟩
  have MA : Made Pr w K mg base "Act" CA ["self", "name", "cost", "places", "kinds"] (sp_actInit CA) := ⟨⟨_, _, ⟨mk_CA, a_actInit, i_actInit, kc_CA⟩, ok_actInit F_actInit C, F_actInit.binds (ps := ["self", "name", "cost", "places", "kinds"]) fun _ _ _ _ _ _ us hl => match us, hl with | [_, _, _, _, _], _ => rfl⟩, PySem.W.mg_of X G g_CA⟩
  have MD : Made Pr w K mg base "Deed" CD ["self", "words", "cost", "sets"] (sp_deedInit CD) := ⟨⟨_, _, ⟨mk_CD, a_deedInit, i_deedInit, kc_CD⟩, ok_deedInit F_deedInit DC, F_deedInit.binds (ps := ["self", "words", "cost", "sets"]) fun _ _ _ _ _ _ us hl => match us, hl with | [_, _, _, _], _ => rfl⟩, PySem.W.mg_of X G g_CD⟩
  have h_sign_of := has_sign_of (P := Pr) (w := w) (base := base) (fun_mk (st := s_sign_of) l_sign_of c_sign_of k_sign_of) O (PySem.W.mg_of X G a_sign_of)
  have h_has_wrong_signs := has_has_wrong_signs (P := Pr) (w := w) (base := base) (fun_mk (st := s_has_wrong_signs) l_has_wrong_signs c_has_wrong_signs k_has_wrong_signs) O (PySem.W.mg_of X G a_has_wrong_signs)
  have h_is_name := has_is_name (P := Pr) (w := w) (base := base) (fun_mk (st := s_is_name) l_is_name c_is_name k_is_name) O (PySem.W.mg_of X G a_is_name)
  have h_is_cost := has_is_cost (P := Pr) (w := w) (base := base) (fun_mk (st := s_is_cost) l_is_cost c_is_cost k_is_cost) O (PySem.W.mg_of X G a_is_cost)
  have h_line_bytes := has_line_bytes (P := Pr) (w := w) (base := base) (fun_mk (st := s_line_bytes) l_line_bytes c_line_bytes k_line_bytes) O (PySem.W.mg_of X G a_line_bytes)
  have h_cut_words := has_cut_words (P := Pr) (w := w) (base := base) (fun_mk (st := s_cut_words) l_cut_words c_cut_words k_cut_words) O (PySem.W.mg_of X G a_cut_words) h_sign_of
  have h_cut_lines := has_cut_lines (P := Pr) (w := w) (base := base) (fun_mk (st := s_cut_lines) l_cut_lines c_cut_lines k_cut_lines) O (PySem.W.mg_of X G a_cut_lines)
  have h_last_places := has_last_places (P := Pr) (w := w) (base := base) (fun_mk (st := s_last_places) l_last_places c_last_places k_last_places) O C (PySem.W.mg_of X G a_last_places)
  have h_claims_of := has_claims_of (P := Pr) (w := w) (base := base) (fun_mk (st := s_claims_of) l_claims_of c_claims_of k_claims_of) O C (PySem.W.mg_of X G a_claims_of)
  have h_tell := has_tell (P := Pr) (w := w) (base := base) (fun_mk (st := s_tell) l_tell c_tell k_tell) O C (PySem.W.mg_of X G a_tell) MA h_claims_of
  have h_is_place_of_an_act := has_is_place (P := Pr) (w := w) (base := base) (fun_mk (st := s_is_place_of_an_act) l_is_place_of_an_act c_is_place_of_an_act k_is_place_of_an_act) O C (PySem.W.mg_of X G a_is_place_of_an_act)
  have h_has_wrong_places := has_has_wrong_places (P := Pr) (w := w) (base := base) (fun_mk (st := s_has_wrong_places) l_has_wrong_places c_has_wrong_places k_has_wrong_places) O C (PySem.W.mg_of X G a_has_wrong_places)
  have h_is_there := has_is_there (P := Pr) (w := w) (base := base) (fun_mk (st := s_is_there) l_is_there c_is_there k_is_there) O C (PySem.W.mg_of X G a_is_there) h_last_places
  have h_kind_of := has_kind_of (P := Pr) (w := w) (base := base) (fun_mk (st := s_kind_of) l_kind_of c_kind_of k_kind_of) O C (PySem.W.mg_of X G a_kind_of)
  have h_count_told := has_count_told (P := Pr) (w := w) (base := base) (fun_mk (st := s_count_told) l_count_told c_count_told k_count_told) O C (PySem.W.mg_of X G a_count_told) h_claims_of
  have h_is_no_line := has_is_no_line (P := Pr) (w := w) (base := base) (fun_mk (st := s_is_no_line) l_is_no_line c_is_no_line k_is_no_line) O TB (PySem.W.mg_of X G a_is_no_line)
  have h_has_wrong_word := has_has_wrong_word (P := Pr) (w := w) (base := base) (fun_mk (st := s_has_wrong_word) l_has_wrong_word c_has_wrong_word k_has_wrong_word) O TB (PySem.W.mg_of X G a_has_wrong_word) h_is_cost h_is_name
  have h_names_what_is_not_there := has_not_there (P := Pr) (w := w) (base := base) (fun_mk (st := s_names_what_is_not_there) l_names_what_is_not_there c_names_what_is_not_there k_names_what_is_not_there) O TB (PySem.W.mg_of X G a_names_what_is_not_there) h_is_there
  have h_has_other_kinds := has_other_kinds (P := Pr) (w := w) (base := base) (fun_mk (st := s_has_other_kinds) l_has_other_kinds c_has_other_kinds k_has_other_kinds) O C TB (PySem.W.mg_of X G a_has_other_kinds) h_kind_of
  have h_takes_a_name_again := has_name_again (P := Pr) (w := w) (base := base) (fun_mk (st := s_takes_a_name_again) l_takes_a_name_again c_takes_a_name_again k_takes_a_name_again) O C (PySem.W.mg_of X G a_takes_a_name_again) h_is_place_of_an_act h_has_wrong_places
  have h_lowest_fault := has_lowest (P := Pr) (w := w) (base := base) (fun_mk (st := s_lowest_fault) l_lowest_fault c_lowest_fault k_lowest_fault) O C TB (PySem.W.mg_of X G a_lowest_fault) h_is_no_line h_has_wrong_word h_takes_a_name_again h_names_what_is_not_there h_has_other_kinds h_count_told
  have h_claim_lines := has_claim_lines (P := Pr) (w := w) (base := base) (fun_mk (st := s_claim_lines) l_claim_lines c_claim_lines k_claim_lines) O (PySem.W.mg_of X G a_claim_lines)
  have h_act_lines := has_act_lines (P := Pr) (w := w) (base := base) (fun_mk (st := s_act_lines) l_act_lines c_act_lines k_act_lines) O C TB (PySem.W.mg_of X G a_act_lines) h_claim_lines
  have h_form_lines := has_form_lines (P := Pr) (w := w) (base := base) (fun_mk (st := s_form_lines) l_form_lines c_form_lines k_form_lines) O C (PySem.W.mg_of X G a_form_lines) h_claim_lines h_act_lines
  have h_one_form := has_one_form (P := Pr) (w := w) (base := base) (fun_mk (st := s_one_form) l_one_form c_one_form k_one_form) O (PySem.W.mg_of X G a_one_form) h_form_lines h_line_bytes
  have h_longer_rows := has_longer_rows (P := Pr) (w := w) (base := base) (fun_mk (st := s_longer_rows) l_longer_rows c_longer_rows k_longer_rows) O (PySem.W.mg_of X G a_longer_rows)
  have h_things_of := has_things_of (P := Pr) (w := w) (base := base) (fun_mk (st := s_things_of) l_things_of c_things_of k_things_of) O C (PySem.W.mg_of X G a_things_of)
  have h_rows_of := has_rows_of (P := Pr) (w := w) (base := base) (fun_mk (st := s_rows_of) l_rows_of c_rows_of k_rows_of) O (PySem.W.mg_of X G a_rows_of) h_longer_rows h_things_of
  have h_all_cases := has_all_cases (P := Pr) (w := w) (base := base) (fun_mk (st := s_all_cases) l_all_cases c_all_cases k_all_cases) O (PySem.W.mg_of X G a_all_cases) h_rows_of
  have h_all_facts := has_all_facts (P := Pr) (w := w) (base := base) (fun_mk (st := s_all_facts) l_all_facts c_all_facts k_all_facts) O C (PySem.W.mg_of X G a_all_facts) h_all_cases
  have h_all_acts := has_all_acts (P := Pr) (w := w) (base := base) (fun_mk (st := s_all_acts) l_all_acts c_all_acts k_all_acts) O C (PySem.W.mg_of X G a_all_acts) h_all_cases
  have h_case_of := has_case_of (P := Pr) (w := w) (base := base) (fun_mk (st := s_case_of) l_case_of c_case_of k_case_of) O C (PySem.W.mg_of X G a_case_of)
  have h_fact_set := has_fact_set (P := Pr) (w := w) (base := base) (fun_mk (st := s_fact_set) l_fact_set c_fact_set k_fact_set) O (PySem.W.mg_of X G a_fact_set) h_case_of
  have h_whole_fault := has_whole_fault (P := Pr) (w := w) (base := base) (fun_mk (st := s_whole_fault) l_whole_fault c_whole_fault k_whole_fault) O O2 TB (PySem.W.mg_of X G a_whole_fault)
  have h_cases_answer := has_cases_answer (P := Pr) (w := w) (base := base) (fun_mk (st := s_cases_answer) l_cases_answer c_cases_answer k_cases_answer) O (PySem.W.mg_of X G a_cases_answer)
  have h_take_line := has_take_line (P := Pr) (w := w) (base := base) (fun_mk (st := s_take_line) l_take_line c_take_line k_take_line) O TB (PySem.W.mg_of X G a_take_line) h_has_wrong_signs h_cut_words h_lowest_fault h_tell
  have h_has_all := has_has_all (P := Pr) (w := w) (base := base) (fun_mk (st := s_has_all) l_has_all c_has_all k_has_all) (PySem.W.mg_of X G a_has_all)
  have h_may_be_done := has_may_be_done (P := Pr) (w := w) (base := base) (fun_mk (st := s_may_be_done) l_may_be_done c_may_be_done k_may_be_done) DC (PySem.W.mg_of X G a_may_be_done) h_has_all
  have h_so_behind := has_so_behind (P := Pr) (w := w) (base := base) (fun_mk (st := s_so_behind) l_so_behind c_so_behind k_so_behind) DC (PySem.W.mg_of X G a_so_behind)
  have h_so_behind_all := has_so_behind_all (P := Pr) (w := w) (base := base) (fun_mk (st := s_so_behind_all) l_so_behind_all c_so_behind_all k_so_behind_all) O DC (PySem.W.mg_of X G a_so_behind_all) h_may_be_done h_so_behind
  have h_thing_names := has_thing_names (P := Pr) (w := w) (base := base) (fun_mk (st := s_thing_names) l_thing_names c_thing_names k_thing_names) C (PySem.W.mg_of X G a_thing_names)
  have h_filled := has_filled (P := Pr) (w := w) (base := base) (fun_mk (st := s_filled) l_filled c_filled k_filled) O (PySem.W.mg_of X G a_filled)
  have h_deed_of := has_deed_of (P := Pr) (w := w) (base := base) (fun_mk (st := s_deed_of) l_deed_of c_deed_of k_deed_of) O C DC TB (PySem.W.mg_of X G a_deed_of) MD h_thing_names h_filled h_fact_set
  have h_all_deeds := has_all_deeds (P := Pr) (w := w) (base := base) (fun_mk (st := s_all_deeds) l_all_deeds c_all_deeds k_all_deeds) (PySem.W.mg_of X G a_all_deeds) h_deed_of
  have h_move_in := has_move_in (P := Pr) (w := w) (base := base) (fun_mk (st := s_move_in) l_move_in c_move_in k_move_in) C HC (PySem.W.mg_of X G a_move_in) h_all_deeds h_fact_set
  have h_read_answer := has_read_answer (P := Pr) (w := w) (base := base) (fun_mk (st := s_read_answer) l_read_answer c_read_answer k_read_answer) O O2 C HC TB (PySem.W.mg_of X G a_read_answer) MT h_cut_lines h_take_line h_all_facts h_all_acts h_whole_fault h_move_in
  have h_print_answer := has_print_answer (P := Pr) (w := w) (base := base) (fun_mk (st := s_print_answer) l_print_answer c_print_answer k_print_answer) O HC (PySem.W.mg_of X G a_print_answer) h_one_form
  have h_facts_answer := has_facts_answer (P := Pr) (w := w) (base := base) (fun_mk (st := s_facts_answer) l_facts_answer c_facts_answer k_facts_answer) HC (PySem.W.mg_of X G a_facts_answer) h_cases_answer
  have h_acts_answer := has_acts_answer (P := Pr) (w := w) (base := base) (fun_mk (st := s_acts_answer) l_acts_answer c_acts_answer k_acts_answer) HC (PySem.W.mg_of X G a_acts_answer) h_cases_answer
  have h_task_answer := has_task_answer (P := Pr) (w := w) (base := base) (fun_mk (st := s_task_answer) l_task_answer c_task_answer k_task_answer) O HC (PySem.W.mg_of X G a_task_answer)
  have h_act_answer := has_act_answer (P := Pr) (w := w) (base := base) (fun_mk (st := s_act_answer) l_act_answer c_act_answer k_act_answer) O O2 HC DC (PySem.W.mg_of X G a_act_answer) h_line_bytes
  have h_fact_answer := has_fact_answer (P := Pr) (w := w) (base := base) (fun_mk (st := s_fact_answer) l_fact_answer c_fact_answer k_fact_answer) O O2 C HC (PySem.W.mg_of X G a_fact_answer) h_thing_names h_line_bytes
  have h_after_answer := has_after_answer (P := Pr) (w := w) (base := base) (fun_mk (st := s_after_answer) l_after_answer c_after_answer k_after_answer) O O2 HC (PySem.W.mg_of X G a_after_answer) h_so_behind_all h_has_all
  have h_cheapest_waiting := has_cheapest_waiting (Pr := Pr) (w := w) (base := base) l_cheapest_waiting c_cheapest_waiting k_cheapest_waiting O (PySem.W.mg_of X G a_cheapest_waiting) TC
  have h_costs_at_the_end := has_costs_at_the_end (Pr := Pr) (w := w) (base := base) (fun_mk (st := s_costs_at_the_end) l_costs_at_the_end c_costs_at_the_end k_costs_at_the_end) O (PySem.W.mg_of X G a_costs_at_the_end) h_has_all
  have h_is_cheapest_step := has_is_cheapest_step (Pr := Pr) (w := w) (base := base) (fun_mk (st := s_is_cheapest_step) l_is_cheapest_step c_is_cheapest_step k_is_cheapest_step) DC (PySem.W.mg_of X G a_is_cheapest_step) h_may_be_done h_so_behind
  have h_lowest_step := has_lowest_step (Pr := Pr) (w := w) (base := base) (fun_mk (st := s_lowest_step) l_lowest_step c_lowest_step k_lowest_step) O (PySem.W.mg_of X G a_lowest_step) h_is_cheapest_step
  have h_ways_into := has_ways_into (Pr := Pr) (w := w) (base := base) (fun_mk (st := s_ways_into) l_ways_into c_ways_into k_ways_into) O DC (PySem.W.mg_of X G a_ways_into) h_may_be_done h_so_behind
  have h_rest_costs := has_rest_costs (Pr := Pr) (w := w) (base := base) (fun_mk (st := s_rest_costs) l_rest_costs c_rest_costs k_rest_costs) O (PySem.W.mg_of X G a_rest_costs) h_ways_into h_costs_at_the_end h_cheapest_waiting
  have h_cheapest_plan := has_cheapest_plan (Pr := Pr) (w := w) (base := base) (fun_mk (st := s_cheapest_plan) l_cheapest_plan c_cheapest_plan k_cheapest_plan) (PySem.W.mg_of X G a_cheapest_plan) h_rest_costs h_lowest_step h_so_behind
  have h_plan_answer := has_plan_answer (Pr := Pr) (w := w) (base := base) (fun_mk (st := s_plan_answer) l_plan_answer c_plan_answer k_plan_answer) O O2 HC DC (PySem.W.mg_of X G a_plan_answer) h_cheapest_plan h_line_bytes
  have h_answer := has_answer (Pr := Pr) (w := w) (base := base) (fun_mk (st := s_answer) l_answer c_answer k_answer) O3 (PySem.W.mg_of X G a_answer) h_read_answer h_print_answer h_facts_answer h_acts_answer h_task_answer h_act_answer h_plan_answer h_fact_answer h_after_answer
  have FH : FnOk Pr w K mg base CX0 3 f_houseInit _ ["self"] (sp_houseInit K CT CA CH CD) := ok_houseInit F_houseInit HC MT
  exact ok_answers (fun_mk (st := s_answers) l_answers c_answers k_answers) O O3 ⟨mk_CH, a_houseInit, i_houseInit, kc_CH⟩ FH (F_houseInit.binds (ps := ["self"]) fun _ _ _ _ _ _ us hl => match us, hl with | [_], _ => rfl) (PySem.W.mg_of X G g_CH) h_answer

end KP
set_option Elab.async false
set_option linter.all false
open PySem PySem.W PyProof.Rows
set_option maxRecDepth 100000 in
set_option maxHeartbeats 8000000 in
theorem PySem.Challenge.cw_kindplans_s01_answers_holds : PySem.Challenge.rw_kindplans_s01_answers.Holds := by
  w_on; k_headS; (case hw => exact ⟨[.list [.int 1]], by decide +kernel, by decide +kernel⟩)
  k_fillS
  refine' KP.walk_tab (r := PySem.Challenge.rw_kindplans_s01_answers) (k := 8) (ps := ["calls"]) (x := "cheapest_waiting") (T := ?kpP) (sp := fun K => KP.spAns K ?kpP) (by decide +kernel) rfl rfl ⟨rfl, by decide, by decide⟩ (fun w h Y => PySem.W.kIn_of Y) ?kpR ?kpT ?kpN ?kpF ?kpS
  case kpR => rfl
  case kpT => intro p; first | k_is | rfl
  case kpN => intro p; first | rfl | k_is
  case kpF =>
    intro w mg fa h Y KX G hmg
    refine' KP.all_mk KX G hmg ?g_CA ?pg_CA ?hd_CA ?po_CA ?sa_CA ?mk_CA ?kc_CA ?n_CA_name ?n_CA_cost ?n_CA_places ?n_CA_kinds ?n_CA_claims ?a_actInit ?i_actInit ?l_actInit ?c_actInit ?k_actInit ?g_CT ?pg_CT ?hd_CT ?po_CT ?sa_CT ?mk_CT ?kc_CT ?n_CT_kinds ?n_CT_things ?n_CT_thing_kinds ?n_CT_facts ?n_CT_fact_kinds ?n_CT_acts ?n_CT_now ?n_CT_want ?a_textInit ?i_textInit ?l_textInit ?c_textInit ?k_textInit ?g_CD ?pg_CD ?hd_CD ?po_CD ?sa_CD ?mk_CD ?kc_CD ?n_CD_words ?n_CD_cost ?n_CD_needs ?n_CD_bars ?n_CD_brings ?n_CD_takes ?a_deedInit ?i_deedInit ?l_deedInit ?c_deedInit ?k_deedInit ?g_CH ?pg_CH ?hd_CH ?po_CH ?sa_CH ?mk_CH ?kc_CH ?n_CH_text ?n_CH_facts ?n_CH_acts ?n_CH_deeds ?n_CH_first ?n_CH_wanted ?a_houseInit ?i_houseInit ?l_houseInit ?c_houseInit ?k_houseInit ?d_TH ?d_AH ?d_DH ?a_all_facts ?l_all_facts ?c_all_facts ?k_all_facts ?a_all_acts ?l_all_acts ?c_all_acts ?k_all_acts ?a_all_cases ?l_all_cases ?c_all_cases ?k_all_cases ?a_rows_of ?l_rows_of ?c_rows_of ?k_rows_of ?a_longer_rows ?l_longer_rows ?c_longer_rows ?k_longer_rows ?a_things_of ?l_things_of ?c_things_of ?k_things_of ?a_thing_names ?l_thing_names ?c_thing_names ?k_thing_names ?a_fact_set ?l_fact_set ?c_fact_set ?k_fact_set ?a_case_of ?l_case_of ?c_case_of ?k_case_of ?a_tell ?l_tell ?c_tell ?k_tell ?a_claims_of ?l_claims_of ?c_claims_of ?k_claims_of ?a_last_places ?l_last_places ?c_last_places ?k_last_places ?a_all_deeds ?l_all_deeds ?c_all_deeds ?k_all_deeds ?a_deed_of ?l_deed_of ?c_deed_of ?k_deed_of ?a_filled ?l_filled ?c_filled ?k_filled ?a_may_be_done ?l_may_be_done ?c_may_be_done ?k_may_be_done ?a_has_all ?l_has_all ?c_has_all ?k_has_all ?a_so_behind ?l_so_behind ?c_so_behind ?k_so_behind ?a_so_behind_all ?l_so_behind_all ?c_so_behind_all ?k_so_behind_all ?a_cut_lines ?l_cut_lines ?c_cut_lines ?k_cut_lines ?a_has_wrong_signs ?l_has_wrong_signs ?c_has_wrong_signs ?k_has_wrong_signs ?a_sign_of ?l_sign_of ?c_sign_of ?k_sign_of ?a_cut_words ?l_cut_words ?c_cut_words ?k_cut_words ?a_is_name ?l_is_name ?c_is_name ?k_is_name ?a_is_cost ?l_is_cost ?c_is_cost ?k_is_cost ?a_line_bytes ?l_line_bytes ?c_line_bytes ?k_line_bytes ?a_lowest_fault ?l_lowest_fault ?c_lowest_fault ?k_lowest_fault ?a_is_no_line ?l_is_no_line ?c_is_no_line ?k_is_no_line ?a_has_wrong_word ?l_has_wrong_word ?c_has_wrong_word ?k_has_wrong_word ?a_takes_a_name_again ?l_takes_a_name_again ?c_takes_a_name_again ?k_takes_a_name_again ?a_is_place_of_an_act ?l_is_place_of_an_act ?c_is_place_of_an_act ?k_is_place_of_an_act ?a_has_wrong_places ?l_has_wrong_places ?c_has_wrong_places ?k_has_wrong_places ?a_names_what_is_not_there ?l_names_what_is_not_there ?c_names_what_is_not_there ?k_names_what_is_not_there ?a_is_there ?l_is_there ?c_is_there ?k_is_there ?a_has_other_kinds ?l_has_other_kinds ?c_has_other_kinds ?k_has_other_kinds ?a_kind_of ?l_kind_of ?c_kind_of ?k_kind_of ?a_count_told ?l_count_told ?c_count_told ?k_count_told ?a_one_form ?l_one_form ?c_one_form ?k_one_form ?a_form_lines ?l_form_lines ?c_form_lines ?k_form_lines ?a_act_lines ?l_act_lines ?c_act_lines ?k_act_lines ?a_claim_lines ?l_claim_lines ?c_claim_lines ?k_claim_lines ?a_cheapest_plan ?l_cheapest_plan ?c_cheapest_plan ?k_cheapest_plan ?a_lowest_step ?l_lowest_step ?c_lowest_step ?k_lowest_step ?a_is_cheapest_step ?l_is_cheapest_step ?c_is_cheapest_step ?k_is_cheapest_step ?a_rest_costs ?l_rest_costs ?c_rest_costs ?k_rest_costs ?a_costs_at_the_end ?l_costs_at_the_end ?c_costs_at_the_end ?k_costs_at_the_end ?a_cheapest_waiting ?l_cheapest_waiting ?c_cheapest_waiting ?k_cheapest_waiting ?a_ways_into ?l_ways_into ?c_ways_into ?k_ways_into ?a_read_answer ?l_read_answer ?c_read_answer ?k_read_answer ?a_move_in ?l_move_in ?c_move_in ?k_move_in ?a_take_line ?l_take_line ?c_take_line ?k_take_line ?a_whole_fault ?l_whole_fault ?c_whole_fault ?k_whole_fault ?a_print_answer ?l_print_answer ?c_print_answer ?k_print_answer ?a_facts_answer ?l_facts_answer ?c_facts_answer ?k_facts_answer ?a_acts_answer ?l_acts_answer ?c_acts_answer ?k_acts_answer ?a_cases_answer ?l_cases_answer ?c_cases_answer ?k_cases_answer ?a_task_answer ?l_task_answer ?c_task_answer ?k_task_answer ?a_act_answer ?l_act_answer ?c_act_answer ?k_act_answer ?a_plan_answer ?l_plan_answer ?c_plan_answer ?k_plan_answer ?a_fact_answer ?l_fact_answer ?c_fact_answer ?k_fact_answer ?a_after_answer ?l_after_answer ?c_after_answer ?k_after_answer ?a_answers ?l_answers ?c_answers ?k_answers ?a_answer ?l_answer ?c_answer ?k_answer ?z_len ?z_ord ?z_any ?z_all ?z_zip ?z_enumerate ?z_int ?z_str ?z_list ?z_tuple ?z_dict ?z_range ?z_min ?z_sum ?v_LINE_END ?v_BLANK ?v_LAST_SIGN ?v_MOST_SIGNS ?v_MOST_NAME_SIGNS ?v_MOST_COST_SIGNS ?v_LETTERS ?v_DIGITS ?v_OTHER_SIGN ?v_NO_FAULT ?v_MOST_FACTS ?v_MOST_ACTS ?v_WRONG_TEXT ?v_NONE_SUCH ?v_NOT_TO_BE_DONE ?v_NO_PLAN ?v_READ ?v_PRINT ?v_FACTS ?v_ACTS ?v_TASK ?v_ACT ?v_PLAN ?v_FACT ?v_AFTER ?g_ROLES ?l_ROLES ?kl_ROLES ?e_ROLES_kind ?x_ROLES_kind ?y_ROLES_kind ?s_ROLES_kind_z ?e_ROLES_thing ?x_ROLES_thing ?y_ROLES_thing ?s_ROLES_thing_z ?e_ROLES_fact ?x_ROLES_fact ?y_ROLES_fact ?s_ROLES_fact_z ?e_ROLES_act ?x_ROLES_act ?y_ROLES_act ?s_ROLES_act_z ?e_ROLES_needs ?x_ROLES_needs ?y_ROLES_needs ?s_ROLES_needs_z ?e_ROLES_bars ?x_ROLES_bars ?y_ROLES_bars ?s_ROLES_bars_z ?e_ROLES_brings ?x_ROLES_brings ?y_ROLES_brings ?s_ROLES_brings_z ?e_ROLES_takes ?x_ROLES_takes ?y_ROLES_takes ?s_ROLES_takes_z ?e_ROLES_now ?x_ROLES_now ?y_ROLES_now ?s_ROLES_now_z ?e_ROLES_want ?x_ROLES_want ?y_ROLES_want ?s_ROLES_want_z ?g_WORD_COUNTS ?l_WORD_COUNTS ?kl_WORD_COUNTS ?kn_WORD_COUNTS ?lo_WORD_COUNTS ?e_WORD_COUNTS_kind ?x_WORD_COUNTS_kind ?y_WORD_COUNTS_kind ?s_WORD_COUNTS_kind_z ?e_WORD_COUNTS_thing ?x_WORD_COUNTS_thing ?y_WORD_COUNTS_thing ?s_WORD_COUNTS_thing_z ?e_WORD_COUNTS_fact ?x_WORD_COUNTS_fact ?y_WORD_COUNTS_fact ?s_WORD_COUNTS_fact_z ?e_WORD_COUNTS_act ?x_WORD_COUNTS_act ?y_WORD_COUNTS_act ?s_WORD_COUNTS_act_z ?e_WORD_COUNTS_needs ?x_WORD_COUNTS_needs ?y_WORD_COUNTS_needs ?s_WORD_COUNTS_needs_z ?e_WORD_COUNTS_bars ?x_WORD_COUNTS_bars ?y_WORD_COUNTS_bars ?s_WORD_COUNTS_bars_z ?e_WORD_COUNTS_brings ?x_WORD_COUNTS_brings ?y_WORD_COUNTS_brings ?s_WORD_COUNTS_brings_z ?e_WORD_COUNTS_takes ?x_WORD_COUNTS_takes ?y_WORD_COUNTS_takes ?s_WORD_COUNTS_takes_z ?e_WORD_COUNTS_now ?x_WORD_COUNTS_now ?y_WORD_COUNTS_now ?s_WORD_COUNTS_now_z ?e_WORD_COUNTS_want ?x_WORD_COUNTS_want ?y_WORD_COUNTS_want ?s_WORD_COUNTS_want_z ?g_MOST ?l_MOST ?kl_MOST ?e_MOST_kind ?e_MOST_thing ?e_MOST_fact ?e_MOST_act ?e_MOST_needs ?e_MOST_bars ?e_MOST_brings ?e_MOST_takes ?e_MOST_now ?e_MOST_want ?g_OF ?x_OF ?y_OF ?s_OF_z
    (case g_CA => k_is)
    (case pg_CA => k_is)
    (case hd_CA => k_is)
    (case po_CA => k_is)
    (case sa_CA => k_is)
    (case mk_CA => k_is)
    (case kc_CA => k_is)
    (case n_CA_name => k_is)
    (case n_CA_cost => k_is)
    (case n_CA_places => k_is)
    (case n_CA_kinds => k_is)
    (case n_CA_claims => k_is)
    (case a_actInit => k_is)
    (case i_actInit => k_is)
    (case l_actInit => k_is)
    (case c_actInit => k_is)
    (case k_actInit => k_is)
    (case g_CT => k_is)
    (case pg_CT => k_is)
    (case hd_CT => k_is)
    (case po_CT => k_is)
    (case sa_CT => k_is)
    (case mk_CT => k_is)
    (case kc_CT => k_is)
    (case n_CT_kinds => k_is)
    (case n_CT_things => k_is)
    (case n_CT_thing_kinds => k_is)
    (case n_CT_facts => k_is)
    (case n_CT_fact_kinds => k_is)
    (case n_CT_acts => k_is)
    (case n_CT_now => k_is)
    (case n_CT_want => k_is)
    (case a_textInit => k_is)
    (case i_textInit => k_is)
    (case l_textInit => k_is)
    (case c_textInit => k_is)
    (case k_textInit => k_is)
    (case g_CD => k_is)
    (case pg_CD => k_is)
    (case hd_CD => k_is)
    (case po_CD => k_is)
    (case sa_CD => k_is)
    (case mk_CD => k_is)
    (case kc_CD => k_is)
    (case n_CD_words => k_is)
    (case n_CD_cost => k_is)
    (case n_CD_needs => k_is)
    (case n_CD_bars => k_is)
    (case n_CD_brings => k_is)
    (case n_CD_takes => k_is)
    (case a_deedInit => k_is)
    (case i_deedInit => k_is)
    (case l_deedInit => k_is)
    (case c_deedInit => k_is)
    (case k_deedInit => k_is)
    (case g_CH => k_is)
    (case pg_CH => k_is)
    (case hd_CH => k_is)
    (case po_CH => k_is)
    (case sa_CH => k_is)
    (case mk_CH => k_is)
    (case kc_CH => k_is)
    (case n_CH_text => k_is)
    (case n_CH_facts => k_is)
    (case n_CH_acts => k_is)
    (case n_CH_deeds => k_is)
    (case n_CH_first => k_is)
    (case n_CH_wanted => k_is)
    (case a_houseInit => k_is)
    (case i_houseInit => k_is)
    (case l_houseInit => k_is)
    (case c_houseInit => k_is)
    (case k_houseInit => k_is)
    (case d_TH => exact (by decide))
    (case d_AH => exact (by decide))
    (case d_DH => exact (by decide))
    (case a_all_facts => k_is)
    (case l_all_facts => k_is)
    (case c_all_facts => k_is)
    (case k_all_facts => k_is)
    (case a_all_acts => k_is)
    (case l_all_acts => k_is)
    (case c_all_acts => k_is)
    (case k_all_acts => k_is)
    (case a_all_cases => k_is)
    (case l_all_cases => k_is)
    (case c_all_cases => k_is)
    (case k_all_cases => k_is)
    (case a_rows_of => k_is)
    (case l_rows_of => k_is)
    (case c_rows_of => k_is)
    (case k_rows_of => k_is)
    (case a_longer_rows => k_is)
    (case l_longer_rows => k_is)
    (case c_longer_rows => k_is)
    (case k_longer_rows => k_is)
    (case a_things_of => k_is)
    (case l_things_of => k_is)
    (case c_things_of => k_is)
    (case k_things_of => k_is)
    (case a_thing_names => k_is)
    (case l_thing_names => k_is)
    (case c_thing_names => k_is)
    (case k_thing_names => k_is)
    (case a_fact_set => k_is)
    (case l_fact_set => k_is)
    (case c_fact_set => k_is)
    (case k_fact_set => k_is)
    (case a_case_of => k_is)
    (case l_case_of => k_is)
    (case c_case_of => k_is)
    (case k_case_of => k_is)
    (case a_tell => k_is)
    (case l_tell => k_is)
    (case c_tell => k_is)
    (case k_tell => k_is)
    (case a_claims_of => k_is)
    (case l_claims_of => k_is)
    (case c_claims_of => k_is)
    (case k_claims_of => k_is)
    (case a_last_places => k_is)
    (case l_last_places => k_is)
    (case c_last_places => k_is)
    (case k_last_places => k_is)
    (case a_all_deeds => k_is)
    (case l_all_deeds => k_is)
    (case c_all_deeds => k_is)
    (case k_all_deeds => k_is)
    (case a_deed_of => k_is)
    (case l_deed_of => k_is)
    (case c_deed_of => k_is)
    (case k_deed_of => k_is)
    (case a_filled => k_is)
    (case l_filled => k_is)
    (case c_filled => k_is)
    (case k_filled => k_is)
    (case a_may_be_done => k_is)
    (case l_may_be_done => k_is)
    (case c_may_be_done => k_is)
    (case k_may_be_done => k_is)
    (case a_has_all => k_is)
    (case l_has_all => k_is)
    (case c_has_all => k_is)
    (case k_has_all => k_is)
    (case a_so_behind => k_is)
    (case l_so_behind => k_is)
    (case c_so_behind => k_is)
    (case k_so_behind => k_is)
    (case a_so_behind_all => k_is)
    (case l_so_behind_all => k_is)
    (case c_so_behind_all => k_is)
    (case k_so_behind_all => k_is)
    (case a_cut_lines => k_is)
    (case l_cut_lines => k_is)
    (case c_cut_lines => k_is)
    (case k_cut_lines => k_is)
    (case a_has_wrong_signs => k_is)
    (case l_has_wrong_signs => k_is)
    (case c_has_wrong_signs => k_is)
    (case k_has_wrong_signs => k_is)
    (case a_sign_of => k_is)
    (case l_sign_of => k_is)
    (case c_sign_of => k_is)
    (case k_sign_of => k_is)
    (case a_cut_words => k_is)
    (case l_cut_words => k_is)
    (case c_cut_words => k_is)
    (case k_cut_words => k_is)
    (case a_is_name => k_is)
    (case l_is_name => k_is)
    (case c_is_name => k_is)
    (case k_is_name => k_is)
    (case a_is_cost => k_is)
    (case l_is_cost => k_is)
    (case c_is_cost => k_is)
    (case k_is_cost => k_is)
    (case a_line_bytes => k_is)
    (case l_line_bytes => k_is)
    (case c_line_bytes => k_is)
    (case k_line_bytes => k_is)
    (case a_lowest_fault => k_is)
    (case l_lowest_fault => k_is)
    (case c_lowest_fault => k_is)
    (case k_lowest_fault => k_is)
    (case a_is_no_line => k_is)
    (case l_is_no_line => k_is)
    (case c_is_no_line => k_is)
    (case k_is_no_line => k_is)
    (case a_has_wrong_word => k_is)
    (case l_has_wrong_word => k_is)
    (case c_has_wrong_word => k_is)
    (case k_has_wrong_word => k_is)
    (case a_takes_a_name_again => k_is)
    (case l_takes_a_name_again => k_is)
    (case c_takes_a_name_again => k_is)
    (case k_takes_a_name_again => k_is)
    (case a_is_place_of_an_act => k_is)
    (case l_is_place_of_an_act => k_is)
    (case c_is_place_of_an_act => k_is)
    (case k_is_place_of_an_act => k_is)
    (case a_has_wrong_places => k_is)
    (case l_has_wrong_places => k_is)
    (case c_has_wrong_places => k_is)
    (case k_has_wrong_places => k_is)
    (case a_names_what_is_not_there => k_is)
    (case l_names_what_is_not_there => k_is)
    (case c_names_what_is_not_there => k_is)
    (case k_names_what_is_not_there => k_is)
    (case a_is_there => k_is)
    (case l_is_there => k_is)
    (case c_is_there => k_is)
    (case k_is_there => k_is)
    (case a_has_other_kinds => k_is)
    (case l_has_other_kinds => k_is)
    (case c_has_other_kinds => k_is)
    (case k_has_other_kinds => k_is)
    (case a_kind_of => k_is)
    (case l_kind_of => k_is)
    (case c_kind_of => k_is)
    (case k_kind_of => k_is)
    (case a_count_told => k_is)
    (case l_count_told => k_is)
    (case c_count_told => k_is)
    (case k_count_told => k_is)
    (case a_one_form => k_is)
    (case l_one_form => k_is)
    (case c_one_form => k_is)
    (case k_one_form => k_is)
    (case a_form_lines => k_is)
    (case l_form_lines => k_is)
    (case c_form_lines => k_is)
    (case k_form_lines => k_is)
    (case a_act_lines => k_is)
    (case l_act_lines => k_is)
    (case c_act_lines => k_is)
    (case k_act_lines => k_is)
    (case a_claim_lines => k_is)
    (case l_claim_lines => k_is)
    (case c_claim_lines => k_is)
    (case k_claim_lines => k_is)
    (case a_cheapest_plan => k_is)
    (case l_cheapest_plan => k_is)
    (case c_cheapest_plan => k_is)
    (case k_cheapest_plan => k_is)
    (case a_lowest_step => k_is)
    (case l_lowest_step => k_is)
    (case c_lowest_step => k_is)
    (case k_lowest_step => k_is)
    (case a_is_cheapest_step => k_is)
    (case l_is_cheapest_step => k_is)
    (case c_is_cheapest_step => k_is)
    (case k_is_cheapest_step => k_is)
    (case a_rest_costs => k_is)
    (case l_rest_costs => k_is)
    (case c_rest_costs => k_is)
    (case k_rest_costs => k_is)
    (case a_costs_at_the_end => k_is)
    (case l_costs_at_the_end => k_is)
    (case c_costs_at_the_end => k_is)
    (case k_costs_at_the_end => k_is)
    (case a_cheapest_waiting => k_is)
    (case l_cheapest_waiting => k_is)
    (case c_cheapest_waiting => k_is)
    (case k_cheapest_waiting => k_is)
    (case a_ways_into => k_is)
    (case l_ways_into => k_is)
    (case c_ways_into => k_is)
    (case k_ways_into => k_is)
    (case a_read_answer => k_is)
    (case l_read_answer => k_is)
    (case c_read_answer => k_is)
    (case k_read_answer => k_is)
    (case a_move_in => k_is)
    (case l_move_in => k_is)
    (case c_move_in => k_is)
    (case k_move_in => k_is)
    (case a_take_line => k_is)
    (case l_take_line => k_is)
    (case c_take_line => k_is)
    (case k_take_line => k_is)
    (case a_whole_fault => k_is)
    (case l_whole_fault => k_is)
    (case c_whole_fault => k_is)
    (case k_whole_fault => k_is)
    (case a_print_answer => k_is)
    (case l_print_answer => k_is)
    (case c_print_answer => k_is)
    (case k_print_answer => k_is)
    (case a_facts_answer => k_is)
    (case l_facts_answer => k_is)
    (case c_facts_answer => k_is)
    (case k_facts_answer => k_is)
    (case a_acts_answer => k_is)
    (case l_acts_answer => k_is)
    (case c_acts_answer => k_is)
    (case k_acts_answer => k_is)
    (case a_cases_answer => k_is)
    (case l_cases_answer => k_is)
    (case c_cases_answer => k_is)
    (case k_cases_answer => k_is)
    (case a_task_answer => k_is)
    (case l_task_answer => k_is)
    (case c_task_answer => k_is)
    (case k_task_answer => k_is)
    (case a_act_answer => k_is)
    (case l_act_answer => k_is)
    (case c_act_answer => k_is)
    (case k_act_answer => k_is)
    (case a_plan_answer => k_is)
    (case l_plan_answer => k_is)
    (case c_plan_answer => k_is)
    (case k_plan_answer => k_is)
    (case a_fact_answer => k_is)
    (case l_fact_answer => k_is)
    (case c_fact_answer => k_is)
    (case k_fact_answer => k_is)
    (case a_after_answer => k_is)
    (case l_after_answer => k_is)
    (case c_after_answer => k_is)
    (case k_after_answer => k_is)
    (case a_answers => k_is)
    (case l_answers => k_is)
    (case c_answers => k_is)
    (case k_answers => k_is)
    (case a_answer => k_is)
    (case l_answer => k_is)
    (case c_answer => k_is)
    (case k_answer => k_is)
    (case z_len => k_is)
    (case z_ord => k_is)
    (case z_any => k_is)
    (case z_all => k_is)
    (case z_zip => k_is)
    (case z_enumerate => k_is)
    (case z_int => k_is)
    (case z_str => k_is)
    (case z_list => k_is)
    (case z_tuple => k_is)
    (case z_dict => k_is)
    (case z_range => k_is)
    (case z_min => k_is)
    (case z_sum => k_is)
    (case v_LINE_END => k_is)
    (case v_BLANK => k_is)
    (case v_LAST_SIGN => k_is)
    (case v_MOST_SIGNS => k_is)
    (case v_MOST_NAME_SIGNS => k_is)
    (case v_MOST_COST_SIGNS => k_is)
    (case v_LETTERS => k_is)
    (case v_DIGITS => k_is)
    (case v_OTHER_SIGN => k_is)
    (case v_NO_FAULT => k_is)
    (case v_MOST_FACTS => k_is)
    (case v_MOST_ACTS => k_is)
    (case v_WRONG_TEXT => k_is)
    (case v_NONE_SUCH => k_is)
    (case v_NOT_TO_BE_DONE => k_is)
    (case v_NO_PLAN => k_is)
    (case v_READ => k_is)
    (case v_PRINT => k_is)
    (case v_FACTS => k_is)
    (case v_ACTS => k_is)
    (case v_TASK => k_is)
    (case v_ACT => k_is)
    (case v_PLAN => k_is)
    (case v_FACT => k_is)
    (case v_AFTER => k_is)
    (case g_ROLES => k_is)
    (case l_ROLES => k_is)
    (case kl_ROLES => k_keys)
    (case e_ROLES_kind => k_is)
    (case x_ROLES_kind => k_is)
    (case y_ROLES_kind => exact .cons ⟨_, rfl⟩ (.nil))
    (case s_ROLES_kind_z => exact (by decide))
    (case e_ROLES_thing => k_is)
    (case x_ROLES_thing => k_is)
    (case y_ROLES_thing => exact .cons ⟨_, rfl⟩ (.cons ⟨_, rfl⟩ (.nil)))
    (case s_ROLES_thing_z => exact (by decide))
    (case e_ROLES_fact => k_is)
    (case x_ROLES_fact => k_is)
    (case y_ROLES_fact => exact .cons ⟨_, rfl⟩ (.cons ⟨_, rfl⟩ (.cons ⟨_, rfl⟩ (.nil))))
    (case s_ROLES_fact_z => exact (by decide))
    (case e_ROLES_act => k_is)
    (case x_ROLES_act => k_is)
    (case y_ROLES_act => exact .cons ⟨_, rfl⟩ (.cons ⟨_, rfl⟩ (.cons ⟨_, rfl⟩ (.cons ⟨_, rfl⟩ (.cons ⟨_, rfl⟩ (.cons ⟨_, rfl⟩ (.nil)))))))
    (case s_ROLES_act_z => exact (by decide))
    (case e_ROLES_needs => k_is)
    (case x_ROLES_needs => k_is)
    (case y_ROLES_needs => exact .cons ⟨_, rfl⟩ (.cons ⟨_, rfl⟩ (.cons ⟨_, rfl⟩ (.nil))))
    (case s_ROLES_needs_z => exact (by decide))
    (case e_ROLES_bars => k_is)
    (case x_ROLES_bars => k_is)
    (case y_ROLES_bars => exact .cons ⟨_, rfl⟩ (.cons ⟨_, rfl⟩ (.cons ⟨_, rfl⟩ (.nil))))
    (case s_ROLES_bars_z => exact (by decide))
    (case e_ROLES_brings => k_is)
    (case x_ROLES_brings => k_is)
    (case y_ROLES_brings => exact .cons ⟨_, rfl⟩ (.cons ⟨_, rfl⟩ (.cons ⟨_, rfl⟩ (.nil))))
    (case s_ROLES_brings_z => exact (by decide))
    (case e_ROLES_takes => k_is)
    (case x_ROLES_takes => k_is)
    (case y_ROLES_takes => exact .cons ⟨_, rfl⟩ (.cons ⟨_, rfl⟩ (.cons ⟨_, rfl⟩ (.nil))))
    (case s_ROLES_takes_z => exact (by decide))
    (case e_ROLES_now => k_is)
    (case x_ROLES_now => k_is)
    (case y_ROLES_now => exact .cons ⟨_, rfl⟩ (.cons ⟨_, rfl⟩ (.cons ⟨_, rfl⟩ (.nil))))
    (case s_ROLES_now_z => exact (by decide))
    (case e_ROLES_want => k_is)
    (case x_ROLES_want => k_is)
    (case y_ROLES_want => exact .cons ⟨_, rfl⟩ (.cons ⟨_, rfl⟩ (.cons ⟨_, rfl⟩ (.nil))))
    (case s_ROLES_want_z => exact (by decide))
    (case g_WORD_COUNTS => k_is)
    (case l_WORD_COUNTS => k_is)
    (case kl_WORD_COUNTS => k_keys)
    (case kn_WORD_COUNTS => rfl)
    (case lo_WORD_COUNTS => rfl)
    (case e_WORD_COUNTS_kind => k_is)
    (case x_WORD_COUNTS_kind => k_is)
    (case y_WORD_COUNTS_kind => exact .cons ⟨_, rfl⟩ (.nil))
    (case s_WORD_COUNTS_kind_z => exact (by decide))
    (case e_WORD_COUNTS_thing => k_is)
    (case x_WORD_COUNTS_thing => k_is)
    (case y_WORD_COUNTS_thing => exact .cons ⟨_, rfl⟩ (.nil))
    (case s_WORD_COUNTS_thing_z => exact (by decide))
    (case e_WORD_COUNTS_fact => k_is)
    (case x_WORD_COUNTS_fact => k_is)
    (case y_WORD_COUNTS_fact => exact .cons ⟨_, rfl⟩ (.cons ⟨_, rfl⟩ (.cons ⟨_, rfl⟩ (.nil))))
    (case s_WORD_COUNTS_fact_z => exact (by decide))
    (case e_WORD_COUNTS_act => k_is)
    (case x_WORD_COUNTS_act => k_is)
    (case y_WORD_COUNTS_act => exact .cons ⟨_, rfl⟩ (.cons ⟨_, rfl⟩ (.cons ⟨_, rfl⟩ (.nil))))
    (case s_WORD_COUNTS_act_z => exact (by decide))
    (case e_WORD_COUNTS_needs => k_is)
    (case x_WORD_COUNTS_needs => k_is)
    (case y_WORD_COUNTS_needs => exact .cons ⟨_, rfl⟩ (.cons ⟨_, rfl⟩ (.cons ⟨_, rfl⟩ (.nil))))
    (case s_WORD_COUNTS_needs_z => exact (by decide))
    (case e_WORD_COUNTS_bars => k_is)
    (case x_WORD_COUNTS_bars => k_is)
    (case y_WORD_COUNTS_bars => exact .cons ⟨_, rfl⟩ (.cons ⟨_, rfl⟩ (.cons ⟨_, rfl⟩ (.nil))))
    (case s_WORD_COUNTS_bars_z => exact (by decide))
    (case e_WORD_COUNTS_brings => k_is)
    (case x_WORD_COUNTS_brings => k_is)
    (case y_WORD_COUNTS_brings => exact .cons ⟨_, rfl⟩ (.cons ⟨_, rfl⟩ (.cons ⟨_, rfl⟩ (.nil))))
    (case s_WORD_COUNTS_brings_z => exact (by decide))
    (case e_WORD_COUNTS_takes => k_is)
    (case x_WORD_COUNTS_takes => k_is)
    (case y_WORD_COUNTS_takes => exact .cons ⟨_, rfl⟩ (.cons ⟨_, rfl⟩ (.cons ⟨_, rfl⟩ (.nil))))
    (case s_WORD_COUNTS_takes_z => exact (by decide))
    (case e_WORD_COUNTS_now => k_is)
    (case x_WORD_COUNTS_now => k_is)
    (case y_WORD_COUNTS_now => exact .cons ⟨_, rfl⟩ (.cons ⟨_, rfl⟩ (.cons ⟨_, rfl⟩ (.nil))))
    (case s_WORD_COUNTS_now_z => exact (by decide))
    (case e_WORD_COUNTS_want => k_is)
    (case x_WORD_COUNTS_want => k_is)
    (case y_WORD_COUNTS_want => exact .cons ⟨_, rfl⟩ (.cons ⟨_, rfl⟩ (.cons ⟨_, rfl⟩ (.nil))))
    (case s_WORD_COUNTS_want_z => exact (by decide))
    (case g_MOST => k_is)
    (case l_MOST => k_is)
    (case kl_MOST => k_keys)
    (case e_MOST_kind => k_is)
    (case e_MOST_thing => k_is)
    (case e_MOST_fact => k_is)
    (case e_MOST_act => k_is)
    (case e_MOST_needs => k_is)
    (case e_MOST_bars => k_is)
    (case e_MOST_brings => k_is)
    (case e_MOST_takes => k_is)
    (case e_MOST_now => k_is)
    (case e_MOST_want => k_is)
    (case g_OF => k_is)
    (case x_OF => k_is)
    (case y_OF => exact .cons ⟨_, rfl⟩ (.cons ⟨_, rfl⟩ (.cons ⟨_, rfl⟩ (.cons ⟨_, rfl⟩ (.nil)))))
    (case s_OF_z => exact (by decide))
  case kpS =>
    intro K H0 H xs a same hT hask hx
    cases hx with
    | cons h1 h2 =>
      cases h2
      cases h1 with
      | lst hs ha =>
        have e := L2.ints_dw a.1 _ ha
        subst e
        exact ⟨_, a.1, rfl, Evl.ex_l same hs, hask, LamX.TabS.nil hT, fun H' p hp => .lst (L2.SqL.of hp) (L2.dw_ints _)⟩
