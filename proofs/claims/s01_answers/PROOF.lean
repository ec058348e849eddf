import PyProof.Rows.All
import Wide.All
import OpenK.AllK
import Wide.FinOn
import HandS.SetFor
import HandS.Strs
import Open.SpecLaws
import KE.OsGo
import HandS.ForSpec
import HandS.ForMost
import HandS.Flow
import KE.DatumMoreOrd
import HandS.WideBits
import HandS.Walk
import HandS.SortInts
import PySem.Challenge.RW_whynonedesk_s01_answers
set_option Elab.async false
/-! The specification's words, as plain facts about rows of acts. -/
namespace Wn
open Pn (Act Task)
structure Ok (t : Task) : Prop where
  pos : 1 ≤ t.facts
  n : t.facts ≤ 5
  few : t.acts.length ≤ 8
  acts : ∀ a ∈ t.acts, a.right t.facts = true
  start : t.start < 2 ^ t.facts
  goal : t.goal < 2 ^ t.facts
theorem right_iff {a : Act} {n : Nat} : a.right n = true ↔ a.pre < 2 ^ n ∧ a.no < 2 ^ n ∧ a.add < 2 ^ n ∧ a.del < 2 ^ n ∧ 1 ≤ a.cost ∧ a.cost ≤ 1000 := by
  simp only [Act.right, Bool.and_eq_true, decide_eq_true_eq]
  exact Iff.rfl
theorem then_lt {a : Act} {n s : Nat} (ha : a.right n = true) (hs : s < 2 ^ n) : a.then_ s < 2 ^ n := by
  have h := right_iff.mp ha
  unfold Pn.Act.then_
  exact Nat.or_lt_two_pow (Nat.lt_of_le_of_lt (Nat.sub_le _ _) hs) h.2.2.1
theorem act_get {t : Task} {k : Nat} (h : k < t.acts.length) : t.act k = t.acts[k] := by
  unfold Pn.Task.act
  simp [List.getD, h]
theorem act_mem {t : Task} {k : Nat} (h : k < t.acts.length) : t.act k ∈ t.acts := by
  rw [act_get h]
  exact List.getElem_mem h
theorem can_iff {t : Task} {s k : Nat} : t.can s k = true ↔ k < t.acts.length ∧ (t.act k).may s = true := by
  simp [Pn.Task.can]
theorem mem_act {t : Task} {a : Act} (h : a ∈ t.acts) : ∃ k, k < t.acts.length ∧ t.act k = a := by
  obtain ⟨k, hk, e⟩ := List.mem_iff_getElem.mp h
  exact ⟨k, hk, by rw [act_get hk, e]⟩
theorem Ok.then_lt {t : Task} (o : Ok t) {s k : Nat} (hs : s < 2 ^ t.facts) (h : t.can s k = true) : (t.act k).then_ s < 2 ^ t.facts :=
  Wn.then_lt (o.acts _ (act_mem (can_iff.mp h).1)) hs
/-! Rows gone through. -/
theorem goes_nil {t : Task} {s : Nat} : t.goes s [] = some s := rfl
theorem goes_cons {t : Task} {s u k : Nat} {l : List Nat} : t.goes s (k :: l) = some u ↔ t.can s k = true ∧ t.goes ((t.act k).then_ s) l = some u := by
  show (if t.can s k = true then t.goes ((t.act k).then_ s) l else none) = some u ↔ _
  by_cases h : t.can s k = true <;> simp [h]
theorem goes_append {t : Task} {u : Nat} {m : List Nat} : ∀ {l : List Nat} {s : Nat}, t.goes s (l ++ m) = some u ↔ ∃ v, t.goes s l = some v ∧ t.goes v m = some u
  | [], s => by simp [goes_nil]
  | k :: l, s => by
    rw [List.cons_append, goes_cons, goes_append]
    constructor
    · rintro ⟨h, v, h1, h2⟩
      exact ⟨v, goes_cons.mpr ⟨h, h1⟩, h2⟩
    · rintro ⟨v, h1, h2⟩
      obtain ⟨h, h3⟩ := goes_cons.mp h1
      exact ⟨h, v, h3, h2⟩
theorem foldl_add : ∀ (l : List Nat) (x : Nat), l.foldl (fun a b => a + b) x = x + l.foldl (fun a b => a + b) 0
  | [], x => rfl
  | a :: l, x => by
    rw [List.foldl_cons, List.foldl_cons, foldl_add l (x + a), foldl_add l (0 + a)]
    omega
theorem sum_cons (a : Nat) (l : List Nat) : Pn.sum (a :: l) = a + Pn.sum l := by
  show List.foldl _ (0 + a) l = _
  rw [foldl_add, Nat.zero_add]
  rfl
theorem price_nil {t : Task} : t.price [] = 0 := rfl
theorem price_cons {t : Task} {k : Nat} {l : List Nat} : t.price (k :: l) = (t.act k).cost + t.price l := sum_cons _ _
theorem price_append {t : Task} {m : List Nat} : ∀ {l : List Nat}, t.price (l ++ m) = t.price l + t.price m
  | [] => by simp [price_nil]
  | k :: l => by
    rw [List.cons_append, price_cons, price_cons, price_append]
    omega
theorem goes_lt {t : Task} (o : Ok t) {u : Nat} : ∀ {l : List Nat} {s : Nat}, s < 2 ^ t.facts → t.goes s l = some u → u < 2 ^ t.facts
  | [], s, hs, h => by
    cases h
    exact hs
  | k :: l, s, hs, h => by
    obtain ⟨c, h⟩ := goes_cons.mp h
    exact goes_lt o (o.then_lt hs c) h
/-! Loops are cut. -/
def seen (t : Task) : Nat → List Nat → List Nat
  | s, [] => [s]
  | s, k :: l => s :: seen t ((t.act k).then_ s) l
theorem seen_length {t : Task} : ∀ {l : List Nat} {s : Nat}, (seen t s l).length = l.length + 1
  | [], _ => rfl
  | k :: l, s => by
    show (seen t _ l).length + 1 = _
    rw [seen_length]
    rfl
theorem seen_lt {t : Task} (o : Ok t) {u : Nat} : ∀ {l : List Nat} {s : Nat}, s < 2 ^ t.facts → t.goes s l = some u → ∀ x ∈ seen t s l, x < 2 ^ t.facts
  | [], s, hs, _, x, hx => by
    rw [List.mem_singleton.mp hx]
    exact hs
  | k :: l, s, hs, h, x, hx => by
    obtain ⟨c, h⟩ := goes_cons.mp h
    cases List.mem_cons.mp hx with
    | inl e =>
      rw [e]
      exact hs
    | inr e => exact seen_lt o (o.then_lt hs c) h x e
theorem seen_suffix {t : Task} {u : Nat} : ∀ {l : List Nat} {s x : Nat}, t.goes s l = some u → x ∈ seen t s l → ∃ m, t.goes x m = some u ∧ seen t x m <:+ seen t s l ∧ t.price m ≤ t.price l
  | [], s, x, h, hx => by
    rw [List.mem_singleton.mp hx]
    exact ⟨[], h, List.suffix_refl _, Nat.le_refl _⟩
  | k :: l, s, x, h, hx => by
    obtain ⟨c, h'⟩ := goes_cons.mp h
    cases List.mem_cons.mp hx with
    | inl e =>
      rw [e]
      exact ⟨k :: l, h, List.suffix_refl _, Nat.le_refl _⟩
    | inr e =>
      obtain ⟨m, h1, h2, h3⟩ := seen_suffix h' e
      refine ⟨m, h1, h2.trans (List.suffix_cons _ _), ?_⟩
      rw [price_cons]
      omega
theorem cut {t : Task} {u : Nat} : ∀ {l : List Nat} {s : Nat}, t.goes s l = some u → ∃ m, t.goes s m = some u ∧ (seen t s m).Nodup ∧ t.price m ≤ t.price l
  | [], s, h => ⟨[], h, by simp [seen], Nat.le_refl _⟩
  | k :: l, s, h => by
    obtain ⟨c, h'⟩ := goes_cons.mp h
    obtain ⟨m, h1, h2, h3⟩ := cut h'
    by_cases e : s ∈ seen t ((t.act k).then_ s) m
    · obtain ⟨p, p1, p2, p3⟩ := seen_suffix h1 e
      refine ⟨p, p1, List.Sublist.nodup p2.sublist h2, ?_⟩
      rw [price_cons]
      omega
    · refine ⟨k :: m, goes_cons.mpr ⟨c, h1⟩, List.nodup_cons.mpr ⟨e, h2⟩, ?_⟩
      rw [price_cons, price_cons]
      omega
theorem nodup_length : ∀ {l S : List Nat}, l.Nodup → (∀ x ∈ l, x ∈ S) → l.length ≤ S.length
  | [], S, _, _ => Nat.zero_le _
  | a :: l, S, h, hS => by
    have ha : a ∈ S := hS a (List.mem_cons_self ..)
    obtain ⟨h1, h2⟩ := List.nodup_cons.mp h
    have := nodup_length (S := S.erase a) h2 fun x hx => (List.mem_erase_of_ne (fun e : x = a => h1 (e ▸ hx))).mpr (hS x (List.mem_cons_of_mem _ hx))
    rw [List.length_erase_of_mem ha] at this
    have : 0 < S.length := List.length_pos_of_mem ha
    simp only [List.length_cons]
    omega
theorem short {t : Task} (o : Ok t) {l : List Nat} {s u : Nat} (hs : s < 2 ^ t.facts) (h : t.goes s l = some u) : ∃ m, t.goes s m = some u ∧ m.length < 2 ^ t.facts ∧ t.price m ≤ t.price l := by
  obtain ⟨m, h1, h2, h3⟩ := cut h
  have := nodup_length (S := List.range (2 ^ t.facts)) h2 fun x hx => List.mem_range.mpr (seen_lt o hs h1 x hx)
  rw [seen_length, List.length_range] at this
  exact ⟨m, h1, by omega, h3⟩
theorem plan_iff {t : Task} {s : Nat} {l : List Nat} : t.plan s l = true ↔ ∃ u, t.goes s l = some u ∧ t.done u = true := by
  unfold Pn.Task.plan
  cases t.goes s l <;> simp
/-! At most so much. -/
def Le (x : Option Nat) (c : Nat) : Prop := ∃ v, x = some v ∧ v ≤ c
theorem le_some {v c : Nat} : Le (some v) c ↔ v ≤ c := ⟨fun ⟨_, e, h⟩ => by cases e; exact h, fun h => ⟨v, rfl, h⟩⟩
theorem le_none {c : Nat} : ¬ Le none c := fun ⟨_, e, _⟩ => by cases e
theorem Le.mono {x : Option Nat} {c d : Nat} (h : Le x c) (hd : c ≤ d) : Le x d := by
  obtain ⟨v, e, h⟩ := h
  exact ⟨v, e, Nat.le_trans h hd⟩
theorem le_ext : ∀ {x y : Option Nat}, (∀ c, Le x c ↔ Le y c) → x = y
  | none, none, _ => rfl
  | none, some v, h => (le_none ((h v).mpr (le_some.mpr (Nat.le_refl _)))).elim
  | some v, none, h => (le_none ((h v).mp (le_some.mpr (Nat.le_refl _)))).elim
  | some v, some w, h => by
    have h1 := le_some.mp ((h v).mp (le_some.mpr (Nat.le_refl _)))
    have h2 := le_some.mp ((h w).mpr (le_some.mpr (Nat.le_refl _)))
    rw [Nat.le_antisymm h2 h1]
theorem le_least : ∀ {x y : Option Nat} {c : Nat}, Le (Pn.least x y) c ↔ Le x c ∨ Le y c
  | none, none, c => by simp [Pn.least, le_none]
  | none, some v, c => by simp [Pn.least, le_none]
  | some v, none, c => by simp [Pn.least, le_none]
  | some v, some w, c => by
    simp only [Pn.least, le_some]
    omega
theorem le_map {x : Option Nat} {k c : Nat} : Le (x.map fun v => k + v) c ↔ ∃ v, Le x v ∧ k + v ≤ c := by
  cases x with
  | none => simp [le_none]
  | some w =>
    simp only [Option.map_some, le_some]
    exact ⟨fun h => ⟨w, Nat.le_refl _, h⟩, fun ⟨v, h1, h2⟩ => by omega⟩
theorem at_map {m : Nat} {g : Nat → Option Nat} {s : Nat} (h : s < m) : Pn.at_ ((List.range m).map g).toArray s = g s := by
  simp [Pn.at_, Array.getD, h]
theorem at_out {m : Nat} {g : Nat → Option Nat} {s : Nat} (h : ¬ s < m) : Pn.at_ ((List.range m).map g).toArray s = none := by
  simp [Pn.at_, Array.getD, h]
/-- a fold that may only lower -/
theorem le_fold {α : Type} {f : Option Nat → α → Option Nat} {g : α → Option Nat} (hf : ∀ b a c, Le (f b a) c ↔ Le b c ∨ Le (g a) c) : ∀ (l : List α) (b : Option Nat) (c : Nat), Le (l.foldl f b) c ↔ Le b c ∨ ∃ a ∈ l, Le (g a) c
  | [], b, c => by simp
  | a :: l, b, c => by
    rw [List.foldl_cons, le_fold hf l, hf]
    simp only [List.mem_cons, exists_eq_or_imp]
    constructor
    · rintro ((h | h) | h)
      · exact .inl h
      · exact .inr (.inl h)
      · exact .inr (.inr h)
    · rintro (h | h | h)
      · exact .inl (.inl h)
      · exact .inl (.inr h)
      · exact .inr h
/-! Rounds till nothing changes. -/
def iter (f : Array (Option Nat) → Array (Option Nat)) : Nat → Array (Option Nat) → Array (Option Nat)
  | 0, d => d
  | n + 1, d => f (iter f n d)
theorem iter_in {f : Array (Option Nat) → Array (Option Nat)} : ∀ (n : Nat) (d : Array (Option Nat)), iter f n (f d) = iter f (n + 1) d
  | 0, _ => rfl
  | n + 1, d => by
    show f (iter f n (f d)) = f (iter f (n + 1) d)
    rw [iter_in n d]
theorem settle_is {f : Array (Option Nat) → Array (Option Nat)} : ∀ (n : Nat) (d : Array (Option Nat)), ∃ k, Pn.settle f n d = iter f k d ∧ (f (iter f k d) = iter f k d ∨ k = n)
  | 0, d => ⟨0, rfl, .inr rfl⟩
  | n + 1, d => by
    show ∃ k, (if f d = d then d else Pn.settle f n (f d)) = iter f k d ∧ _
    by_cases h : f d = d
    · rw [if_pos h]
      exact ⟨0, rfl, .inl h⟩
    · rw [if_neg h]
      obtain ⟨k, h1, h2⟩ := settle_is (f := f) n (f d)
      refine ⟨k + 1, by rw [h1, iter_in], ?_⟩
      rw [← iter_in]
      cases h2 with
      | inl h => exact .inl h
      | inr h => exact .inr (by rw [h])
theorem iter_fix {f : Array (Option Nat) → Array (Option Nat)} {d : Array (Option Nat)} {k : Nat} (h : f (iter f k d) = iter f k d) : ∀ j, iter f (k + j) d = iter f k d
  | 0 => rfl
  | j + 1 => by
    show f (iter f (k + j) d) = _
    rw [iter_fix h j, h]
/-- what settles is some round, as late as one likes -/
theorem settle_late {f : Array (Option Nat) → Array (Option Nat)} {n m : Nat} {d : Array (Option Nat)} (hm : m ≤ n) : ∃ k, m ≤ k ∧ Pn.settle f n d = iter f k d := by
  obtain ⟨k, h1, h2⟩ := settle_is (f := f) n d
  cases h2 with
  | inl h => exact ⟨k + m, Nat.le_add_left _ _, by rw [h1, iter_fix h m]⟩
  | inr h => exact ⟨k, by omega, h1⟩
/-! What it costs from each state. -/
def d0 (t : Task) : Array (Option Nat) := ((List.range (2 ^ t.facts)).map fun s => if t.done s = true then some 0 else none).toArray
theorem le_round {t : Task} {d : Array (Option Nat)} {s : Nat} (hs : s < 2 ^ t.facts) (c : Nat) : Le (Pn.at_ (t.round d) s) c ↔ Le (Pn.at_ d s) c ∨ ∃ a ∈ t.acts, a.may s = true ∧ ∃ v, Le (Pn.at_ d (a.then_ s)) v ∧ a.cost + v ≤ c := by
  unfold Pn.Task.round
  rw [at_map hs, le_fold (g := fun a => if a.may s = true then (Pn.at_ d (a.then_ s)).map fun c => a.cost + c else none)]
  · apply or_congr_right
    constructor
    · rintro ⟨a, ha, h⟩
      by_cases hm : a.may s = true
      · rw [if_pos hm] at h
        exact ⟨a, ha, hm, le_map.mp h⟩
      · rw [if_neg hm] at h
        exact (le_none h).elim
    · rintro ⟨a, ha, hm, h⟩
      refine ⟨a, ha, ?_⟩
      rw [if_pos hm]
      exact le_map.mpr h
  · intro b a c
    by_cases hm : a.may s = true
    · rw [if_pos hm, if_pos hm, le_least]
    · rw [if_neg hm, if_neg hm]
      simp [le_none]
theorem le_iter {t : Task} (o : Ok t) : ∀ (k : Nat) {s : Nat}, s < 2 ^ t.facts → ∀ c, Le (Pn.at_ (iter t.round k (d0 t)) s) c ↔ ∃ l, l.length ≤ k ∧ t.plan s l = true ∧ t.price l ≤ c
  | 0, s, hs, c => by
    show Le (Pn.at_ (d0 t) s) c ↔ _
    unfold d0
    rw [at_map hs]
    constructor
    · intro h
      by_cases hd : t.done s = true
      · exact ⟨[], Nat.le_refl _, plan_iff.mpr ⟨s, rfl, hd⟩, Nat.zero_le _⟩
      · rw [if_neg hd] at h
        exact (le_none h).elim
    · rintro ⟨l, hl, hp, hc⟩
      cases l with
      | nil =>
        obtain ⟨u, hu, hd⟩ := plan_iff.mp hp
        cases hu
        rw [if_pos hd]
        exact le_some.mpr (Nat.zero_le _)
      | cons k l => exact absurd hl (by simp)
  | k + 1, s, hs, c => by
    show Le (Pn.at_ (t.round (iter t.round k (d0 t))) s) c ↔ _
    rw [le_round hs, le_iter o k hs]
    constructor
    · rintro (⟨l, hl, hp, hc⟩ | ⟨a, ha, hm, v, hv, hc⟩)
      · exact ⟨l, by omega, hp, hc⟩
      · obtain ⟨j, hj, rfl⟩ := mem_act ha
        have hcan : t.can s j = true := can_iff.mpr ⟨hj, hm⟩
        obtain ⟨l, hl, hp, hv⟩ := (le_iter o k (o.then_lt hs hcan) v).mp hv
        obtain ⟨u, hu, hd⟩ := plan_iff.mp hp
        refine ⟨j :: l, by simp only [List.length_cons]; omega, plan_iff.mpr ⟨u, goes_cons.mpr ⟨hcan, hu⟩, hd⟩, ?_⟩
        rw [price_cons]
        omega
    · rintro ⟨l, hl, hp, hc⟩
      cases l with
      | nil => exact .inl ⟨[], Nat.zero_le _, hp, hc⟩
      | cons j l =>
        obtain ⟨u, hu, hd⟩ := plan_iff.mp hp
        obtain ⟨hcan, hu⟩ := goes_cons.mp hu
        rw [price_cons] at hc
        simp only [List.length_cons] at hl
        exact .inr ⟨t.act j, act_mem (can_iff.mp hcan).1, (can_iff.mp hcan).2, t.price l, (le_iter o k (o.then_lt hs hcan) _).mpr ⟨l, by omega, plan_iff.mpr ⟨u, hu, hd⟩, Nat.le_refl _⟩, hc⟩
/-- **What the specification's costs are**: at most c if and only if there is a plan of at most c. -/
theorem costs_le {t : Task} (o : Ok t) {s : Nat} (hs : s < 2 ^ t.facts) (c : Nat) : Le (Pn.at_ t.costs s) c ↔ ∃ l, t.plan s l = true ∧ t.price l ≤ c := by
  obtain ⟨k, hk, e⟩ := settle_late (f := t.round) (n := 2 ^ t.facts + 1) (m := 2 ^ t.facts) (d := d0 t) (by omega)
  have e' : t.costs = iter t.round k (d0 t) := e
  rw [e', le_iter o k hs]
  constructor
  · rintro ⟨l, _, h⟩
    exact ⟨l, h⟩
  · rintro ⟨l, hp, hc⟩
    obtain ⟨u, hu, hd⟩ := plan_iff.mp hp
    obtain ⟨m, h1, h2, h3⟩ := short o hs hu
    exact ⟨m, by omega, plan_iff.mpr ⟨u, h1, hd⟩, by omega⟩
theorem costs_none {t : Task} (o : Ok t) {s : Nat} (hs : s < 2 ^ t.facts) : Pn.at_ t.costs s = none ↔ ∀ l, ¬ t.plan s l = true := by
  constructor
  · intro h l hp
    have := (costs_le o hs (t.price l)).mpr ⟨l, hp, Nat.le_refl _⟩
    rw [h] at this
    exact le_none this
  · intro h
    cases e : Pn.at_ t.costs s with
    | none => rfl
    | some v =>
      obtain ⟨l, hl, _⟩ := (costs_le o hs v).mp (by rw [e]; exact le_some.mpr (Nat.le_refl _))
      exact (h l hl).elim
theorem costs_some {t : Task} (o : Ok t) {s v : Nat} (hs : s < 2 ^ t.facts) : Pn.at_ t.costs s = some v ↔ (∃ l, t.plan s l = true ∧ t.price l = v) ∧ ∀ l, t.plan s l = true → v ≤ t.price l := by
  constructor
  · intro e
    have k := costs_le o hs
    rw [e] at k
    have low : ∀ l, t.plan s l = true → v ≤ t.price l := fun l hl => le_some.mp ((k _).mpr ⟨l, hl, Nat.le_refl _⟩)
    obtain ⟨l, hl, hc⟩ := (k v).mp (le_some.mpr (Nat.le_refl _))
    exact ⟨⟨l, hl, Nat.le_antisymm hc (low l hl)⟩, low⟩
  · rintro ⟨⟨l, hl, rfl⟩, low⟩
    refine le_ext fun c => ?_
    rw [costs_le o hs, le_some]
    exact ⟨fun ⟨m, hm, hc⟩ => Nat.le_trans (low m hm) hc, fun h => ⟨l, hl, h⟩⟩
/-! From the start. -/
def e0 (t : Task) : Array (Option Nat) := ((List.range (2 ^ t.facts)).map fun s => if s = t.start then some 0 else none).toArray
def fromRound (t : Task) (d : Array (Option Nat)) : Array (Option Nat) := ((List.range (2 ^ t.facts)).map fun u => (List.range (2 ^ t.facts)).foldl (fun b s => match Pn.at_ d s with
  | none => b
  | some c => t.acts.foldl (fun e a => if a.may s = true ∧ a.then_ s = u then Pn.least e (some (c + a.cost)) else e) b) (Pn.at_ d u)).toArray
theorem fromStart_is (t : Task) : Pn14.fromStart t = Pn.settle (fromRound t) (2 ^ t.facts + 1) (e0 t) := rfl
theorem le_fromRound {t : Task} {d : Array (Option Nat)} {u : Nat} (hu : u < 2 ^ t.facts) (c : Nat) : Le (Pn.at_ (fromRound t d) u) c ↔ Le (Pn.at_ d u) c ∨ ∃ s, s < 2 ^ t.facts ∧ ∃ a ∈ t.acts, a.may s = true ∧ a.then_ s = u ∧ ∃ v, Le (Pn.at_ d s) v ∧ v + a.cost ≤ c := by
  unfold fromRound
  rw [at_map hu]
  have inner : ∀ (s v : Nat) (b : Option Nat) (c : Nat), Le (t.acts.foldl (fun e a => if a.may s = true ∧ a.then_ s = u then Pn.least e (some (v + a.cost)) else e) b) c ↔ Le b c ∨ ∃ a ∈ t.acts, a.may s = true ∧ a.then_ s = u ∧ v + a.cost ≤ c := by
    intro s v b c
    rw [le_fold (g := fun a => if a.may s = true ∧ a.then_ s = u then some (v + a.cost) else none)]
    · apply or_congr_right
      constructor
      · rintro ⟨a, ha, h⟩
        by_cases hm : a.may s = true ∧ a.then_ s = u
        · rw [if_pos hm] at h
          exact ⟨a, ha, hm.1, hm.2, le_some.mp h⟩
        · rw [if_neg hm] at h
          exact (le_none h).elim
      · rintro ⟨a, ha, h1, h2, h⟩
        refine ⟨a, ha, ?_⟩
        rw [if_pos ⟨h1, h2⟩]
        exact le_some.mpr h
    · intro b a c
      by_cases hm : a.may s = true ∧ a.then_ s = u
      · rw [if_pos hm, if_pos hm, le_least]
      · rw [if_neg hm, if_neg hm]
        simp [le_none]
  rw [le_fold (g := fun s => match Pn.at_ d s with
    | none => none
    | some v => t.acts.foldl (fun e a => if a.may s = true ∧ a.then_ s = u then Pn.least e (some (v + a.cost)) else e) none)]
  · apply or_congr_right
    constructor
    · rintro ⟨s, hs, h⟩
      cases e : Pn.at_ d s with
      | none =>
        rw [e] at h
        exact (le_none h).elim
      | some v =>
        rw [e] at h
        cases (inner s v none c).mp h with
        | inl h => exact (le_none h).elim
        | inr h =>
          obtain ⟨a, ha, h1, h2, h3⟩ := h
          exact ⟨s, List.mem_range.mp hs, a, ha, h1, h2, v, by rw [e]; exact le_some.mpr (Nat.le_refl _), h3⟩
    · rintro ⟨s, hs, a, ha, h1, h2, v, hv, h3⟩
      obtain ⟨w, e, hw⟩ := hv
      refine ⟨s, List.mem_range.mpr hs, ?_⟩
      rw [e]
      exact (inner s w none c).mpr (.inr ⟨a, ha, h1, h2, by omega⟩)
  · intro b s c
    cases Pn.at_ d s with
    | none => simp [le_none]
    | some v =>
      show Le (t.acts.foldl _ b) c ↔ Le b c ∨ Le (t.acts.foldl _ none) c
      rw [inner, inner]
      simp [le_none]
theorem price_one {t : Task} {k : Nat} : t.price [k] = (t.act k).cost := by
  rw [price_cons, price_nil, Nat.add_zero]
theorem le_fromIter {t : Task} (o : Ok t) : ∀ (k : Nat) {u : Nat}, u < 2 ^ t.facts → ∀ c, Le (Pn.at_ (iter (fromRound t) k (e0 t)) u) c ↔ ∃ l, l.length ≤ k ∧ t.goes t.start l = some u ∧ t.price l ≤ c
  | 0, u, hu, c => by
    show Le (Pn.at_ (e0 t) u) c ↔ _
    unfold e0
    rw [at_map hu]
    constructor
    · intro h
      by_cases hd : u = t.start
      · exact ⟨[], Nat.le_refl _, by rw [hd]; rfl, Nat.zero_le _⟩
      · rw [if_neg hd] at h
        exact (le_none h).elim
    · rintro ⟨l, hl, hp, hc⟩
      cases l with
      | nil =>
        cases hp
        rw [if_pos rfl]
        exact le_some.mpr (Nat.zero_le _)
      | cons k l => exact absurd hl (by simp)
  | k + 1, u, hu, c => by
    show Le (Pn.at_ (fromRound t (iter (fromRound t) k (e0 t))) u) c ↔ _
    rw [le_fromRound hu, le_fromIter o k hu]
    constructor
    · rintro (⟨l, hl, hp, hc⟩ | ⟨s, hs, a, ha, hm, ht, v, hv, hc⟩)
      · exact ⟨l, by omega, hp, hc⟩
      · obtain ⟨j, hj, rfl⟩ := mem_act ha
        obtain ⟨l, hl, hp, hv⟩ := (le_fromIter o k hs v).mp hv
        refine ⟨l ++ [j], by simp only [List.length_append, List.length_cons, List.length_nil]; omega, goes_append.mpr ⟨s, hp, goes_cons.mpr ⟨can_iff.mpr ⟨hj, hm⟩, by rw [ht]; rfl⟩⟩, ?_⟩
        rw [price_append, price_one]
        omega
    · rintro ⟨l, hl, hp, hc⟩
      rcases List.eq_nil_or_concat l with rfl | ⟨l, j, rfl⟩
      · exact .inl ⟨[], Nat.zero_le _, hp, hc⟩
      · rw [List.concat_eq_append] at hl hp hc
        obtain ⟨s, hs, h⟩ := goes_append.mp hp
        obtain ⟨hcan, h⟩ := goes_cons.mp h
        cases h
        rw [price_append, price_one] at hc
        simp only [List.length_append, List.length_cons, List.length_nil] at hl
        have hlt := goes_lt o o.start hs
        exact .inr ⟨s, hlt, t.act j, act_mem (can_iff.mp hcan).1, (can_iff.mp hcan).2, rfl, t.price l, (le_fromIter o k hlt _).mpr ⟨l, by omega, hs, Nat.le_refl _⟩, hc⟩
theorem fromStart_le {t : Task} (o : Ok t) {u : Nat} (hu : u < 2 ^ t.facts) (c : Nat) : Le (Pn.at_ (Pn14.fromStart t) u) c ↔ ∃ l, t.goes t.start l = some u ∧ t.price l ≤ c := by
  obtain ⟨k, hk, e⟩ := settle_late (f := fromRound t) (n := 2 ^ t.facts + 1) (m := 2 ^ t.facts) (d := e0 t) (by omega)
  rw [fromStart_is, e, le_fromIter o k hu]
  constructor
  · rintro ⟨l, _, h⟩
    exact ⟨l, h⟩
  · rintro ⟨l, hp, hc⟩
    obtain ⟨m, h1, h2, h3⟩ := short o o.start hp
    exact ⟨m, by omega, h1, by omega⟩
end Wn

set_option Elab.async false
namespace Wn
open Pn (Act Task)
/-! States that can be come to. -/
def wider (t : Task) (l : List Nat) : List Nat := (List.range (2 ^ t.facts)).filter fun s => l.contains s || l.any fun u => t.acts.any fun a => a.may u && a.then_ u == s
def liter (f : List Nat → List Nat) : Nat → List Nat → List Nat
  | 0, d => d
  | n + 1, d => f (liter f n d)
theorem liter_in {f : List Nat → List Nat} : ∀ (n : Nat) (d : List Nat), liter f n (f d) = liter f (n + 1) d
  | 0, _ => rfl
  | n + 1, d => by
    show f (liter f n (f d)) = f (liter f (n + 1) d)
    rw [liter_in n d]
theorem liter_fix {f : List Nat → List Nat} {d : List Nat} {k : Nat} (h : f (liter f k d) = liter f k d) : ∀ j, liter f (k + j) d = liter f k d
  | 0 => rfl
  | j + 1 => by
    show f (liter f (k + j) d) = _
    rw [liter_fix h j, h]
theorem more_is {t : Task} : ∀ (n : Nat) (d : List Nat), ∃ k, t.more n d = liter (wider t) k d ∧ (wider t (liter (wider t) k d) = liter (wider t) k d ∨ k = n)
  | 0, d => ⟨0, rfl, .inr rfl⟩
  | n + 1, d => by
    show ∃ k, (if wider t d = d then d else t.more n (wider t d)) = liter (wider t) k d ∧ _
    by_cases h : wider t d = d
    · rw [if_pos h]
      exact ⟨0, rfl, .inl h⟩
    · rw [if_neg h]
      obtain ⟨k, h1, h2⟩ := more_is (t := t) n (wider t d)
      refine ⟨k + 1, by rw [h1, liter_in], ?_⟩
      rw [← liter_in]
      cases h2 with
      | inl h => exact .inl h
      | inr h => exact .inr (by rw [h])
theorem mem_wider {t : Task} {l : List Nat} {s : Nat} : s ∈ wider t l ↔ s < 2 ^ t.facts ∧ (s ∈ l ∨ ∃ u ∈ l, ∃ a ∈ t.acts, a.may u = true ∧ a.then_ u = s) := by
  unfold wider
  simp only [List.mem_filter, List.mem_range, Bool.or_eq_true, List.contains_iff_mem, List.any_eq_true, Bool.and_eq_true, beq_iff_eq]
theorem mem_liter {t : Task} (o : Ok t) {a : Nat} (ha : a < 2 ^ t.facts) : ∀ (k : Nat) {s : Nat}, s ∈ liter (wider t) k [a] ↔ ∃ l, l.length ≤ k ∧ t.goes a l = some s
  | 0, s => by
    show s ∈ [a] ↔ _
    constructor
    · intro h
      rw [List.mem_singleton.mp h]
      exact ⟨[], Nat.le_refl _, rfl⟩
    · rintro ⟨l, hl, h⟩
      cases l with
      | nil =>
        cases h
        exact List.mem_singleton.mpr rfl
      | cons k l => exact absurd hl (by simp)
  | k + 1, s => by
    show s ∈ wider t (liter (wider t) k [a]) ↔ _
    rw [mem_wider]
    constructor
    · rintro ⟨hs, h | ⟨u, hu, x, hx, hm, e⟩⟩
      · obtain ⟨l, hl, h⟩ := (mem_liter o ha k).mp h
        exact ⟨l, by omega, h⟩
      · obtain ⟨l, hl, h⟩ := (mem_liter o ha k).mp hu
        obtain ⟨j, hj, rfl⟩ := mem_act hx
        refine ⟨l ++ [j], by simp only [List.length_append, List.length_cons, List.length_nil]; omega, goes_append.mpr ⟨u, h, goes_cons.mpr ⟨can_iff.mpr ⟨hj, hm⟩, by rw [e]; rfl⟩⟩⟩
    · rintro ⟨l, hl, h⟩
      refine ⟨goes_lt o ha h, ?_⟩
      rcases List.eq_nil_or_concat l with rfl | ⟨l, j, rfl⟩
      · exact .inl ((mem_liter o ha k).mpr ⟨[], Nat.zero_le _, h⟩)
      · rw [List.concat_eq_append] at hl h
        obtain ⟨u, hu, h⟩ := goes_append.mp h
        obtain ⟨hcan, h⟩ := goes_cons.mp h
        cases h
        simp only [List.length_append, List.length_cons, List.length_nil] at hl
        exact .inr ⟨u, (mem_liter o ha k).mpr ⟨l, by omega, hu⟩, t.act j, act_mem (can_iff.mp hcan).1, (can_iff.mp hcan).2, rfl⟩
def Rch (t : Task) (a s : Nat) : Prop := ∃ l, t.goes a l = some s
/-- **What the specification's reach is.** -/
theorem reach_mem {t : Task} (o : Ok t) {a s : Nat} (ha : a < 2 ^ t.facts) : s ∈ t.reach a ↔ Rch t a s := by
  obtain ⟨k, h1, h2⟩ := more_is (t := t) (2 ^ t.facts) [a]
  have hk : ∃ k, 2 ^ t.facts ≤ k ∧ t.reach a = liter (wider t) k [a] := by
    cases h2 with
    | inl h => exact ⟨k + 2 ^ t.facts, Nat.le_add_left _ _, by rw [liter_fix h]; exact h1⟩
    | inr h => exact ⟨k, by omega, h1⟩
  obtain ⟨k, hk, e⟩ := hk
  rw [e, mem_liter o ha]
  constructor
  · rintro ⟨l, _, h⟩
    exact ⟨l, h⟩
  · rintro ⟨l, h⟩
    obtain ⟨m, h1, h2, _⟩ := short o ha h
    exact ⟨m, by omega, h1⟩
theorem Rch.refl {t : Task} {a : Nat} : Rch t a a := ⟨[], rfl⟩
theorem Rch.step {t : Task} {a s k : Nat} (h : Rch t a s) (hc : t.can s k = true) : Rch t a ((t.act k).then_ s) := by
  obtain ⟨l, h⟩ := h
  exact ⟨l ++ [k], goes_append.mpr ⟨s, h, goes_cons.mpr ⟨hc, rfl⟩⟩⟩
theorem Rch.lt {t : Task} (o : Ok t) {a s : Nat} (ha : a < 2 ^ t.facts) (h : Rch t a s) : s < 2 ^ t.facts := by
  obtain ⟨l, h⟩ := h
  exact goes_lt o ha h
/-- what holds at first and is kept by every act holds of all that can be come to -/
theorem Rch.all {t : Task} {P : Nat → Prop} (hs : ∀ s k, P s → t.can s k = true → P ((t.act k).then_ s)) : ∀ {l : List Nat} {a s : Nat}, P a → t.goes a l = some s → P s
  | [], a, s, h, e => by
    cases e
    exact h
  | k :: l, a, s, h, e => by
    obtain ⟨c, e⟩ := goes_cons.mp e
    exact Rch.all hs (hs a k h c) e
/-! Two rising lists with the same members. -/
theorem rise_ext : ∀ {l m : List Nat}, l.Pairwise (· < ·) → m.Pairwise (· < ·) → (∀ x, x ∈ l ↔ x ∈ m) → l = m
  | [], [], _, _, _ => rfl
  | [], b :: m, _, _, h => absurd ((h b).mpr (List.mem_cons_self ..)) (by simp)
  | a :: l, [], _, _, h => absurd ((h a).mp (List.mem_cons_self ..)) (by simp)
  | a :: l, b :: m, hl, hm, h => by
    obtain ⟨a1, l1⟩ := List.pairwise_cons.mp hl
    obtain ⟨b1, m1⟩ := List.pairwise_cons.mp hm
    have e : a = b := by
      have x := List.mem_cons.mp ((h a).mp (List.mem_cons_self ..))
      have y := List.mem_cons.mp ((h b).mpr (List.mem_cons_self ..))
      cases x with
      | inl x => exact x
      | inr x =>
        cases y with
        | inl y => exact y.symm
        | inr y =>
          have := b1 a x
          have := a1 b y
          omega
    subst e
    congr 1
    refine rise_ext l1 m1 fun x => ?_
    constructor
    · intro hx
      cases List.mem_cons.mp ((h x).mp (List.mem_cons_of_mem _ hx)) with
      | inl e =>
        have := a1 x hx
        omega
      | inr e => exact e
    · intro hx
      cases List.mem_cons.mp ((h x).mpr (List.mem_cons_of_mem _ hx)) with
      | inl e =>
        have := b1 x hx
        omega
      | inr e => exact e
theorem range_rise (n : Nat) : (List.range n).Pairwise (· < ·) := List.pairwise_lt_range
/-! Sets within sets. -/
theorem within_iff {a b : Nat} : Pn.within a b = true ↔ a &&& b = a := by
  unfold Pn.within
  rw [beq_iff_eq]
  exact Iff.rfl
theorem within_le {a b : Nat} (h : Pn.within a b = true) : a ≤ b := by
  rw [within_iff] at h
  rw [← h]
  exact Nat.and_le_right
theorem within_bits {a b : Nat} : Pn.within a b = true ↔ ∀ i, a.testBit i = true → b.testBit i = true := by
  rw [within_iff]
  constructor
  · intro h i hi
    have := congrArg (fun n => Nat.testBit n i) h
    simp only [Nat.testBit_and, hi, Bool.true_and] at this
    exact this
  · intro h
    apply Nat.eq_of_testBit_eq
    intro i
    rw [Nat.testBit_and]
    cases e : a.testBit i with
    | false => rfl
    | true => rw [h i e]; rfl
theorem within_refl {a : Nat} : Pn.within a a = true := within_bits.mpr fun _ h => h
theorem within_trans {a b c : Nat} (h : Pn.within a b = true) (k : Pn.within b c = true) : Pn.within a c = true := within_bits.mpr fun i e => within_bits.mp k i (within_bits.mp h i e)
theorem within_and {a b c : Nat} : Pn.within a (b &&& c) = true ↔ Pn.within a b = true ∧ Pn.within a c = true := by
  simp only [within_bits, Nat.testBit_and, Bool.and_eq_true]
  exact ⟨fun h => ⟨fun i e => (h i e).1, fun i e => (h i e).2⟩, fun h i e => ⟨h.1 i e, h.2 i e⟩⟩
theorem within_antisymm {a b : Nat} (h : Pn.within a b = true) (k : Pn.within b a = true) : a = b := Nat.le_antisymm (within_le h) (within_le k)
/-! Wishes. -/
def Had (t : Task) (m : Nat) : Prop := Pn.within m t.goal = true ∧ ∃ s, Rch t t.start s ∧ Pn.within m s = true
theorem mem_subsets {n g m : Nat} : m ∈ Pn14.subsets n g ↔ m < 2 ^ n ∧ Pn.within m g = true := by
  unfold Pn14.subsets
  rw [List.mem_filter, List.mem_range]
theorem mem_had {t : Task} (o : Ok t) {m : Nat} : m ∈ Pn14.had t ↔ Had t m := by
  unfold Pn14.had
  rw [List.mem_filter, mem_subsets, List.any_eq_true]
  constructor
  · rintro ⟨⟨h1, h2⟩, s, hs, h3⟩
    exact ⟨h2, s, (reach_mem o o.start).mp hs, h3⟩
  · rintro ⟨h2, s, hs, h3⟩
    exact ⟨⟨Nat.lt_of_le_of_lt (within_le h2) o.goal, h2⟩, s, (reach_mem o o.start).mpr hs, h3⟩
theorem mem_greatest {t : Task} (o : Ok t) {m : Nat} : m ∈ Pn14.greatest t ↔ Had t m ∧ ∀ k, Had t k → Pn.within m k = true → k = m := by
  unfold Pn14.greatest
  rw [List.mem_filter, mem_had o]
  apply and_congr_right
  intro _
  simp only [Bool.not_eq_true', List.any_eq_false, mem_had o, Bool.and_eq_true, bne_iff_ne, not_and, Bool.not_eq_true]
  constructor
  · intro h k hk hw
    by_cases e : k = m
    · exact e
    · rw [h k hk e] at hw
      cases hw
  · intro h k hk hne
    cases e : Pn.within m k with
    | false => rfl
    | true => exact (hne (h k hk e)).elim
theorem mem_least {t : Task} (o : Ok t) {m : Nat} : m ∈ Pn14.least t ↔ (Pn.within m t.goal = true ∧ ¬ Had t m) ∧ ∀ k, Pn.within k m = true → k ≠ m → Had t k := by
  have sub : ∀ k, k ∈ (Pn14.subsets t.facts t.goal).filter (fun m => !(Pn14.had t).contains m) ↔ Pn.within k t.goal = true ∧ ¬ Had t k := by
    intro k
    rw [List.mem_filter, mem_subsets, Bool.not_eq_true', ← Bool.not_eq_true, List.contains_iff_mem, mem_had o]
    exact ⟨fun h => ⟨h.1.2, h.2⟩, fun h => ⟨⟨Nat.lt_of_le_of_lt (within_le h.1) o.goal, h.1⟩, h.2⟩⟩
  unfold Pn14.least
  dsimp only
  rw [List.mem_filter, sub]
  apply and_congr_right
  intro hm
  simp only [Bool.not_eq_true', List.any_eq_false, sub, Bool.and_eq_true, bne_iff_ne, not_and]
  constructor
  · intro h k hw hne
    apply Classical.byContradiction
    intro hk
    exact h k ⟨within_trans hw hm.1, hk⟩ hne hw
  · intro h k hk hne hw
    exact hk.2 (h k hw hne)
theorem rise_had (t : Task) : (Pn14.had t).Pairwise (· < ·) := ((range_rise _).filter _).filter _
theorem rise_greatest (t : Task) : (Pn14.greatest t).Pairwise (· < ·) := (rise_had t).filter _
theorem rise_least (t : Task) : (Pn14.least t).Pairwise (· < ·) := (((range_rise _).filter _).filter _).filter _
/-- the greatest among the wishes had at some state are the greatest of all -/
theorem greatest_is {t : Task} (o : Ok t) {D : List Nat} (hD : D.Pairwise (· < ·)) (hm : ∀ m, m ∈ D ↔ ∃ s, Rch t t.start s ∧ m = s &&& t.goal) :
    D.filter (fun m => !D.any fun k => k != m && Pn.within m k) = Pn14.greatest t := by
  have inD : ∀ m, m ∈ D → Had t m := by
    intro m h
    obtain ⟨s, hs, rfl⟩ := (hm m).mp h
    have := (within_and (a := s &&& t.goal)).mp within_refl
    exact ⟨this.2, s, hs, this.1⟩
  have up : ∀ m, Had t m → ∃ k ∈ D, Pn.within m k = true := by
    rintro m ⟨hg, s, hs, hw⟩
    exact ⟨s &&& t.goal, (hm _).mpr ⟨s, hs, rfl⟩, within_and.mpr ⟨hw, hg⟩⟩
  refine rise_ext (hD.filter _) (rise_greatest t) fun m => ?_
  rw [mem_greatest o, List.mem_filter]
  simp only [Bool.not_eq_true', List.any_eq_false, Bool.and_eq_true, bne_iff_ne, not_and]
  constructor
  · rintro ⟨h1, h2⟩
    refine ⟨inD m h1, fun k hk hw => ?_⟩
    obtain ⟨j, hj, hw'⟩ := up k hk
    by_cases e : j = m
    · subst e
      exact within_antisymm hw' hw
    · exact (h2 j hj e (within_trans hw hw')).elim
  · rintro ⟨h1, h2⟩
    obtain ⟨j, hj, hw⟩ := up m h1
    have e := h2 j (inD j hj) hw
    subst e
    exact ⟨hj, fun k hk hne hw => hne (h2 k (inD k hk) hw)⟩
end Wn

set_option Elab.async false
/-! What the specification says of why, otherwise, plan, inway. -/
namespace Wn
open Pn (Act Task)
/-! why -/
theorem le_withAct {t : Task} (o : Ok t) (k c : Nat) : Le (Pn14.withAct t k) c ↔ ∃ l, t.plan t.start l = true ∧ k ∈ l ∧ t.price l ≤ c := by
  unfold Pn14.withAct
  dsimp only
  rw [le_fold (g := fun s => if t.can s k = false then none else match Pn.at_ (Pn14.fromStart t) s, Pn.at_ t.costs ((t.act k).then_ s) with
    | some x, some y => some (x + (t.act k).cost + y)
    | _, _ => none)]
  · constructor
    · rintro (h | ⟨s, hs, h⟩)
      · exact (le_none h).elim
      · by_cases hc : t.can s k = false
        · rw [if_pos hc] at h
          exact (le_none h).elim
        · rw [if_neg hc] at h
          have hc : t.can s k = true := by
            cases e : t.can s k with
            | false => exact absurd e hc
            | true => rfl
          have hs := List.mem_range.mp hs
          cases e1 : Pn.at_ (Pn14.fromStart t) s with
          | none =>
            rw [e1] at h
            exact (le_none h).elim
          | some x =>
            cases e2 : Pn.at_ t.costs ((t.act k).then_ s) with
            | none =>
              rw [e1, e2] at h
              exact (le_none h).elim
            | some y =>
              rw [e1, e2] at h
              have h := le_some.mp h
              obtain ⟨l1, g1, p1⟩ := (fromStart_le o hs x).mp (by rw [e1]; exact le_some.mpr (Nat.le_refl _))
              obtain ⟨l2, g2, p2⟩ := (costs_le o (o.then_lt hs hc) y).mp (by rw [e2]; exact le_some.mpr (Nat.le_refl _))
              obtain ⟨u, hu, hd⟩ := plan_iff.mp g2
              refine ⟨l1 ++ k :: l2, plan_iff.mpr ⟨u, goes_append.mpr ⟨s, g1, goes_cons.mpr ⟨hc, hu⟩⟩, hd⟩, by simp, ?_⟩
              rw [price_append, price_cons]
              omega
    · rintro ⟨l, hp, hk, hc⟩
      obtain ⟨l1, l2, rfl⟩ := List.append_of_mem hk
      obtain ⟨u, hu, hd⟩ := plan_iff.mp hp
      obtain ⟨s, h1, h2⟩ := goes_append.mp hu
      obtain ⟨hcan, h3⟩ := goes_cons.mp h2
      have hs := goes_lt o o.start h1
      rw [price_append, price_cons] at hc
      refine .inr ⟨s, List.mem_range.mpr hs, ?_⟩
      obtain ⟨x, ex, hx⟩ := (fromStart_le o hs (t.price l1)).mpr ⟨l1, h1, Nat.le_refl _⟩
      obtain ⟨y, ey, hy⟩ := (costs_le o (o.then_lt hs hcan) (t.price l2)).mpr ⟨l2, plan_iff.mpr ⟨u, h3, hd⟩, Nat.le_refl _⟩
      rw [if_neg (by rw [hcan]; exact Bool.noConfusion), ex, ey]
      exact le_some.mpr (by omega)
  · intro b s c
    by_cases hc : t.can s k = false
    · rw [if_pos hc, if_pos hc]
      simp [le_none]
    · rw [if_neg hc, if_neg hc]
      cases Pn.at_ (Pn14.fromStart t) s with
      | none => simp [le_none]
      | some x =>
        cases Pn.at_ t.costs ((t.act k).then_ s) with
        | none => simp [le_none]
        | some y => rw [le_least]
theorem le_map' {x : Option Nat} {k c : Nat} : Le (x.map fun v => v + k) c ↔ ∃ v, Le x v ∧ v + k ≤ c := by
  cases x with
  | none => simp [le_none]
  | some w =>
    simp only [Option.map_some, le_some]
    exact ⟨fun h => ⟨w, Nat.le_refl _, h⟩, fun ⟨v, h1, h2⟩ => by omega⟩
theorem le_beginning {t : Task} (o : Ok t) (k c : Nat) : Le (Pn14.beginning t k) c ↔ ∃ l, t.plan t.start (k :: l) = true ∧ t.price (k :: l) ≤ c := by
  unfold Pn14.beginning
  by_cases hc : t.can t.start k = false
  · rw [if_pos hc]
    constructor
    · intro h
      exact (le_none h).elim
    · rintro ⟨l, hp, _⟩
      obtain ⟨u, hu, _⟩ := plan_iff.mp hp
      rw [(goes_cons.mp hu).1] at hc
      cases hc
  · rw [if_neg hc]
    have hc : t.can t.start k = true := by
      cases e : t.can t.start k with
      | false => exact absurd e hc
      | true => rfl
    rw [le_map']
    constructor
    · rintro ⟨v, h1, h2⟩
      obtain ⟨l, hp, hl⟩ := (costs_le o (o.then_lt o.start hc) v).mp h1
      obtain ⟨u, hu, hd⟩ := plan_iff.mp hp
      refine ⟨l, plan_iff.mpr ⟨u, goes_cons.mpr ⟨hc, hu⟩, hd⟩, ?_⟩
      rw [price_cons]
      omega
    · rintro ⟨l, hp, hl⟩
      obtain ⟨u, hu, hd⟩ := plan_iff.mp hp
      rw [price_cons] at hl
      exact ⟨t.price l, (costs_le o (o.then_lt o.start hc) _).mpr ⟨l, plan_iff.mpr ⟨u, (goes_cons.mp hu).2, hd⟩, Nat.le_refl _⟩, by omega⟩
/-! costs, one step on -/
theorem cost_pos {t : Task} (o : Ok t) {s k : Nat} (h : t.can s k = true) : 1 ≤ (t.act k).cost := (right_iff.mp (o.acts _ (act_mem (can_iff.mp h).1))).2.2.2.2.1
theorem costs_done {t : Task} (o : Ok t) {s : Nat} (hs : s < 2 ^ t.facts) (h : t.done s = true) : Pn.at_ t.costs s = some 0 :=
  (costs_some o hs).mpr ⟨⟨[], plan_iff.mpr ⟨s, rfl, h⟩, rfl⟩, fun _ _ => Nat.zero_le _⟩
theorem costs_zero {t : Task} (o : Ok t) {s : Nat} (hs : s < 2 ^ t.facts) (h : Pn.at_ t.costs s = some 0) : t.done s = true := by
  obtain ⟨⟨l, hp, hl⟩, _⟩ := (costs_some o hs).mp h
  obtain ⟨u, hu, hd⟩ := plan_iff.mp hp
  cases l with
  | nil =>
    cases hu
    exact hd
  | cons k l =>
    have := cost_pos o (goes_cons.mp hu).1
    rw [price_cons] at hl
    omega
/-- a plan's first act, and the rest -/
theorem costs_step {t : Task} (o : Ok t) {s v : Nat} (hs : s < 2 ^ t.facts) (h : Pn.at_ t.costs s = some v) (nd : ¬ t.done s = true) : ∃ k v', t.can s k = true ∧ Pn.at_ t.costs ((t.act k).then_ s) = some v' ∧ (t.act k).cost + v' = v := by
  obtain ⟨⟨l, hp, hl⟩, low⟩ := (costs_some o hs).mp h
  obtain ⟨u, hu, hd⟩ := plan_iff.mp hp
  cases l with
  | nil =>
    cases hu
    exact absurd hd nd
  | cons k l =>
    obtain ⟨hc, hu'⟩ := goes_cons.mp hu
    rw [price_cons] at hl
    refine ⟨k, t.price l, hc, (costs_some o (o.then_lt hs hc)).mpr ⟨⟨l, plan_iff.mpr ⟨u, hu', hd⟩, rfl⟩, fun m hm => ?_⟩, hl⟩
    obtain ⟨u2, hu2, hd2⟩ := plan_iff.mp hm
    have := low (k :: m) (plan_iff.mpr ⟨u2, goes_cons.mpr ⟨hc, hu2⟩, hd2⟩)
    rw [price_cons] at this
    omega
theorem costs_under {t : Task} (o : Ok t) {s k v' : Nat} (hs : s < 2 ^ t.facts) (hc : t.can s k = true) (h : Pn.at_ t.costs ((t.act k).then_ s) = some v') : ∃ v, Pn.at_ t.costs s = some v ∧ v ≤ (t.act k).cost + v' := by
  obtain ⟨⟨l, hp, hl⟩, _⟩ := (costs_some o (o.then_lt hs hc)).mp h
  obtain ⟨u, hu, hd⟩ := plan_iff.mp hp
  obtain ⟨v, e, hv⟩ := (costs_le o hs ((t.act k).cost + v')).mpr ⟨k :: l, plan_iff.mpr ⟨u, goes_cons.mpr ⟨hc, hu⟩, hd⟩, by rw [price_cons]; omega⟩
  exact ⟨v, e, hv⟩
/-! the first of the cheapest plans -/
def lexle : List Nat → List Nat → Prop
  | [], _ => True
  | _ :: _, [] => False
  | a :: l, b :: m => a < b ∨ (a = b ∧ lexle l m)
structure First (t : Task) (s : Nat) (l : List Nat) : Prop where
  plan : t.plan s l = true
  low : ∀ m, t.plan s m = true → t.price l ≤ t.price m
  first : ∀ m, t.plan s m = true → t.price m = t.price l → lexle l m
theorem lexle_antisymm : ∀ {l m : List Nat}, lexle l m → lexle m l → l = m
  | [], [], _, _ => rfl
  | [], b :: m, _, h => h.elim
  | a :: l, [], h, _ => h.elim
  | a :: l, b :: m, h, k => by
    rcases h with h | ⟨rfl, h⟩
    · rcases k with k | ⟨k, _⟩ <;> omega
    · rcases k with k | ⟨_, k⟩
      · omega
      · rw [lexle_antisymm h k]
theorem First.unique {t : Task} {s : Nat} {l m : List Nat} (a : First t s l) (b : First t s m) : l = m := by
  have e : t.price l = t.price m := Nat.le_antisymm (a.low m b.plan) (b.low l a.plan)
  exact lexle_antisymm (a.first m b.plan e.symm) (b.first l a.plan e)
/-- the greedy step -/
def pick (t : Task) (s : Nat) : Option Nat := (List.range t.acts.length).find? fun k => t.can s k && ((Pn.at_ t.costs ((t.act k).then_ s)).map fun c => (t.act k).cost + c) == Pn.at_ t.costs s
theorem first_nil {t : Task} {s : Nat} (h : t.done s = true) : First t s [] :=
  ⟨plan_iff.mpr ⟨s, rfl, h⟩, fun _ _ => Nat.zero_le _, fun _ _ _ => trivial⟩
theorem pick_some {t : Task} (o : Ok t) {s v : Nat} (hs : s < 2 ^ t.facts) (h : Pn.at_ t.costs s = some v) (nd : ¬ t.done s = true) : ∃ k v', pick t s = some k ∧ t.can s k = true ∧ Pn.at_ t.costs ((t.act k).then_ s) = some v' ∧ (t.act k).cost + v' = v ∧
    ∀ j v2, j < k → t.can s j = true → Pn.at_ t.costs ((t.act j).then_ s) = some v2 → (t.act j).cost + v2 ≠ v := by
  obtain ⟨k0, v0, c0, e0, s0⟩ := costs_step o hs h nd
  unfold pick
  cases e : (List.range t.acts.length).find? fun k => t.can s k && ((Pn.at_ t.costs ((t.act k).then_ s)).map fun c => (t.act k).cost + c) == Pn.at_ t.costs s with
  | none =>
    have := List.find?_eq_none.mp e k0 (List.mem_range.mpr (can_iff.mp c0).1)
    exfalso
    apply this
    rw [c0, e0, h]
    simp [s0]
  | some k =>
    obtain ⟨hk, as, bs, hl, hb⟩ := List.find?_eq_some_iff_append.mp e
    simp only [Bool.and_eq_true, beq_iff_eq] at hk
    obtain ⟨hc, he⟩ := hk
    rw [h] at he
    cases e1 : Pn.at_ t.costs ((t.act k).then_ s) with
    | none =>
      rw [e1] at he
      cases he
    | some v' =>
      rw [e1] at he
      have he : (t.act k).cost + v' = v := Option.some.inj he
      refine ⟨k, v', rfl, hc, e1, he, fun j v2 hj hcj ej eq => ?_⟩
      have hjm : j ∈ as := by
        have hlen : as.length = k := by
          have h1 : (List.range t.acts.length)[as.length]? = some k := by
            rw [hl, List.getElem?_append_right (Nat.le_refl _), Nat.sub_self]
            rfl
          obtain ⟨h2, h3⟩ := List.getElem?_eq_some_iff.mp h1
          rw [List.getElem_range] at h3
          exact h3
        have h1 : (List.range t.acts.length)[j]? = some j := by
          rw [List.getElem?_range]
          exact (can_iff.mp hcj).1
        rw [hl, List.getElem?_append_left (by omega)] at h1
        exact List.mem_of_getElem? h1
      have := hb j hjm
      rw [hcj, ej, h] at this
      simp [eq] at this
theorem first_cons {t : Task} (o : Ok t) {s v k v' : Nat} {l : List Nat} (hs : s < 2 ^ t.facts) (h : Pn.at_ t.costs s = some v) (nd : ¬ t.done s = true) (hc : t.can s k = true) (h1 : Pn.at_ t.costs ((t.act k).then_ s) = some v') (h2 : (t.act k).cost + v' = v)
    (h3 : ∀ j v2, j < k → t.can s j = true → Pn.at_ t.costs ((t.act j).then_ s) = some v2 → (t.act j).cost + v2 ≠ v) (f : First t ((t.act k).then_ s) l) : First t s (k :: l) := by
  obtain ⟨u, hu, hd⟩ := plan_iff.mp f.plan
  have hl : t.price l = v' := by
    obtain ⟨⟨m, hm, em⟩, low⟩ := (costs_some o (o.then_lt hs hc)).mp h1
    exact Nat.le_antisymm (by rw [← em]; exact f.low m hm) (low l f.plan)
  obtain ⟨_, low⟩ := (costs_some o hs).mp h
  refine ⟨plan_iff.mpr ⟨u, goes_cons.mpr ⟨hc, hu⟩, hd⟩, fun m hm => ?_, fun m hm em => ?_⟩
  · rw [price_cons, hl, h2]
    exact low m hm
  · rw [price_cons, hl, h2] at em
    obtain ⟨u2, hu2, hd2⟩ := plan_iff.mp hm
    cases m with
    | nil =>
      cases hu2
      exact absurd hd2 nd
    | cons j m =>
      obtain ⟨hcj, hu3⟩ := goes_cons.mp hu2
      rw [price_cons] at em
      have hpm : t.plan ((t.act j).then_ s) m = true := plan_iff.mpr ⟨u2, hu3, hd2⟩
      obtain ⟨v2, e2, hv2⟩ := (costs_le o (o.then_lt hs hcj) (t.price m)).mpr ⟨m, hpm, Nat.le_refl _⟩
      obtain ⟨v3, e3, hv3⟩ := costs_under o hs hcj e2
      rw [h] at e3
      have e3 : v = v3 := Option.some.inj e3
      have eq2 : (t.act j).cost + v2 = v := by omega
      rcases Nat.lt_trichotomy k j with hkj | rfl | hjk
      · exact .inl hkj
      · refine .inr ⟨rfl, f.first m hpm ?_⟩
        omega
      · exact absurd eq2 (h3 j v2 hjk hcj e2)
/-- how many states are within a cost -/
def rank (t : Task) (v : Nat) : Nat := ((List.range (2 ^ t.facts)).filter fun u => match Pn.at_ t.costs u with
  | some c => decide (c ≤ v)
  | none => false).length
theorem rank_lt {t : Task} {s v v' : Nat} (hs : s < 2 ^ t.facts) (h : Pn.at_ t.costs s = some v) (hv : v' < v) : rank t v' < rank t v := by
  unfold rank
  have key : ∀ l : List Nat, s ∈ l → (l.filter fun u => match Pn.at_ t.costs u with
      | some c => decide (c ≤ v')
      | none => false).length < (l.filter fun u => match Pn.at_ t.costs u with
      | some c => decide (c ≤ v)
      | none => false).length := by
    have le : ∀ l : List Nat, (l.filter fun u => match Pn.at_ t.costs u with
      | some c => decide (c ≤ v')
      | none => false).length ≤ (l.filter fun u => match Pn.at_ t.costs u with
      | some c => decide (c ≤ v)
      | none => false).length := by
      intro l
      induction l with
      | nil => exact Nat.le_refl _
      | cons a l ih =>
        rw [List.filter_cons, List.filter_cons]
        cases Pn.at_ t.costs a with
        | none => simpa using ih
        | some c =>
          by_cases h1 : c ≤ v'
          · have h2 : c ≤ v := by omega
            simp only [h1, h2, decide_true, if_true, List.length_cons]
            omega
          · by_cases h2 : c ≤ v
            · simp only [h1, h2, decide_true, decide_false, if_true, List.length_cons]
              simp only [Bool.false_eq_true, if_false]
              omega
            · simp only [h1, h2, decide_false, Bool.false_eq_true, if_false]
              exact ih
    intro l
    induction l with
    | nil => intro hm; cases hm
    | cons a l ih =>
      intro hm
      rw [List.filter_cons, List.filter_cons]
      rcases List.mem_cons.mp hm with e | hm
      · subst e
        rw [h]
        have h1 : ¬ v ≤ v' := by omega
        simp only [h1, Nat.le_refl, decide_true, decide_false, Bool.false_eq_true, if_true, if_false, List.length_cons]
        have := le l
        omega
      · have ih := ih hm
        cases Pn.at_ t.costs a with
        | none => simpa using ih
        | some c =>
          by_cases h1 : c ≤ v'
          · have h2 : c ≤ v := by omega
            simp only [h1, h2, decide_true, if_true, List.length_cons]
            omega
          · by_cases h2 : c ≤ v
            · simp only [h1, h2, decide_true, decide_false, if_true, List.length_cons]
              simp only [Bool.false_eq_true, if_false]
              omega
            · simp only [h1, h2, decide_false, Bool.false_eq_true, if_false]
              exact ih
  exact key _ (List.mem_range.mpr hs)
theorem rank_le (t : Task) (v : Nat) : rank t v ≤ 2 ^ t.facts := by
  unfold rank
  refine Nat.le_trans (List.length_filter_le _ _) ?_
  rw [List.length_range]
  exact Nat.le_refl _
theorem rank_pos {t : Task} {s v : Nat} (hs : s < 2 ^ t.facts) (h : Pn.at_ t.costs s = some v) : 1 ≤ rank t v := by
  unfold rank
  refine List.length_pos_of_mem (a := s) (List.mem_filter.mpr ⟨List.mem_range.mpr hs, ?_⟩)
  rw [h]
  exact decide_eq_true (Nat.le_refl _)
theorem best_first {t : Task} (o : Ok t) : ∀ (n s v : Nat), s < 2 ^ t.facts → Pn.at_ t.costs s = some v → rank t v ≤ n + 1 → First t s (t.best t.costs n s)
  | 0, s, v, hs, h, hr => by
    by_cases hd : t.done s = true
    · exact first_nil hd
    · obtain ⟨k, v', hc, e, hv⟩ := costs_step o hs h hd
      have h1 := cost_pos o hc
      have h2 := rank_lt hs h (v' := v') (by omega)
      have h3 := rank_pos (o.then_lt hs hc) e
      omega
  | n + 1, s, v, hs, h, hr => by
    show First t s (if t.done s = true then [] else match pick t s with
      | some k => k :: t.best t.costs n ((t.act k).then_ s)
      | none => [])
    by_cases hd : t.done s = true
    · rw [if_pos hd]
      exact first_nil hd
    · rw [if_neg hd]
      obtain ⟨k, v', ep, hc, e, hv, hl⟩ := pick_some o hs h hd
      rw [ep]
      have h1 := cost_pos o hc
      have h2 := rank_lt hs h (v' := v') (by omega)
      exact first_cons o hs h hd hc e hv hl (best_first o n _ v' (o.then_lt hs hc) e (by omega))
/-- **What the specification's plan is.** -/
theorem first_is {t : Task} (o : Ok t) {s : Nat} (hs : s < 2 ^ t.facts) {l : List Nat} : t.first s = some l ↔ First t s l := by
  have e : t.first s = match Pn.at_ t.costs s with
    | none => none
    | some _ => some (t.best t.costs (2 ^ t.facts) s) := rfl
  cases h : Pn.at_ t.costs s with
  | none =>
    rw [e, h]
    constructor
    · intro z
      cases z
    · intro f
      exact absurd f.plan ((costs_none o hs).mp h l)
  | some v =>
    have f := best_first o (2 ^ t.facts) s v hs h (Nat.le_succ_of_le (rank_le t v))
    rw [e, h]
    constructor
    · intro z
      cases z
      exact f
    · intro g
      show some _ = some _
      rw [f.unique g]
theorem first_none {t : Task} (o : Ok t) {s : Nat} (hs : s < 2 ^ t.facts) : t.first s = none ↔ ∀ l, ¬ t.plan s l = true := by
  rw [← costs_none o hs]
  have e : t.first s = match Pn.at_ t.costs s with
    | none => none
    | some _ => some (t.best t.costs (2 ^ t.facts) s) := rfl
  rw [e]
  cases Pn.at_ t.costs s <;> simp
theorem First.price {t : Task} (o : Ok t) {s : Nat} (hs : s < 2 ^ t.facts) {l : List Nat} (f : First t s l) : Pn.at_ t.costs s = some (t.price l) :=
  (costs_some o hs).mpr ⟨⟨l, f.plan, rfl⟩, f.low⟩
end Wn

set_option Elab.async false
/-! What the specification says of otherwise and inway. -/
namespace Wn
open Pn (Act Task)
open Pn14 (less easier dear apart)
theorem less_irrefl : ∀ a : List Nat, less a a = false
  | [] => rfl
  | a :: l => by
    simp [less, less_irrefl l]
theorem less_iff {a b : Nat} {l m : List Nat} : less (a :: l) (b :: m) = true ↔ a < b ∨ (a = b ∧ less l m = true) := by
  simp [less]
theorem less_trans : ∀ {a b c : List Nat}, less a b = true → less b c = true → less a c = true
  | [], [], _, h, _ => by cases h
  | [], _ :: _, [], _, k => by cases k
  | [], _ :: _, _ :: _, _, _ => rfl
  | _ :: _, [], _, h, _ => by cases h
  | _ :: _, _ :: _, [], _, k => by cases k
  | a :: l, b :: m, c :: n, h, k => by
    rw [less_iff] at h k ⊢
    rcases h with h | ⟨rfl, h⟩
    · rcases k with k | ⟨rfl, k⟩
      · exact .inl (by omega)
      · exact .inl h
    · rcases k with k | ⟨rfl, k⟩
      · exact .inl k
      · exact .inr ⟨rfl, less_trans h k⟩
theorem less_total : ∀ (a b : List Nat), a = b ∨ less a b = true ∨ less b a = true
  | [], [] => .inl rfl
  | [], _ :: _ => .inr (.inl rfl)
  | _ :: _, [] => .inr (.inr rfl)
  | a :: l, b :: m => by
    rcases Nat.lt_trichotomy a b with h | rfl | h
    · exact .inr (.inl (less_iff.mpr (.inl h)))
    · rcases less_total l m with rfl | h | h
      · exact .inl rfl
      · exact .inr (.inl (less_iff.mpr (.inr ⟨rfl, h⟩)))
      · exact .inr (.inr (less_iff.mpr (.inr ⟨rfl, h⟩)))
    · exact .inr (.inr (less_iff.mpr (.inl h)))
theorem easier_iff {p a b : List Nat} : easier p a b = true ↔ dear p a < dear p b ∨ (dear p a = dear p b ∧ (a.length < b.length ∨ (a.length = b.length ∧ less a b = true))) := by
  simp [easier]
theorem easier_irrefl (p a : List Nat) : easier p a a = false := by
  cases h : easier p a a with
  | false => rfl
  | true =>
    rw [easier_iff, less_irrefl] at h
    rcases h with h | ⟨_, h | ⟨_, h⟩⟩
    · omega
    · omega
    · cases h
theorem easier_trans {p a b c : List Nat} (h : easier p a b = true) (k : easier p b c = true) : easier p a c = true := by
  rw [easier_iff] at h k ⊢
  rcases h with h | ⟨h, h'⟩
  · rcases k with k | ⟨k, _⟩ <;> exact .inl (by omega)
  · rcases k with k | ⟨k, k'⟩
    · exact .inl (by omega)
    · refine .inr ⟨by omega, ?_⟩
      rcases h' with h' | ⟨h', h2⟩
      · rcases k' with k' | ⟨k', _⟩ <;> exact .inl (by omega)
      · rcases k' with k' | ⟨k', k2⟩
        · exact .inl (by omega)
        · exact .inr ⟨by omega, less_trans h2 k2⟩
theorem easier_total (p a b : List Nat) : a = b ∨ easier p a b = true ∨ easier p b a = true := by
  rw [easier_iff, easier_iff]
  rcases less_total a b with h | h | h
  · exact .inl h
  · rcases Nat.lt_trichotomy (dear p a) (dear p b) with d | d | d
    · exact .inr (.inl (.inl d))
    · rcases Nat.lt_trichotomy a.length b.length with e | e | e
      · exact .inr (.inl (.inr ⟨d, .inl e⟩))
      · exact .inr (.inl (.inr ⟨d, .inr ⟨e, h⟩⟩))
      · exact .inr (.inr (.inr ⟨d.symm, .inl e⟩))
    · exact .inr (.inr (.inl d))
  · rcases Nat.lt_trichotomy (dear p a) (dear p b) with d | d | d
    · exact .inr (.inl (.inl d))
    · rcases Nat.lt_trichotomy a.length b.length with e | e | e
      · exact .inr (.inl (.inr ⟨d, .inl e⟩))
      · exact .inr (.inr (.inr ⟨d.symm, .inr ⟨e.symm, h⟩⟩))
      · exact .inr (.inr (.inr ⟨d.symm, .inl e⟩))
    · exact .inr (.inr (.inl d))
def keepEasier (p : List Nat) (a : Option (List Nat)) (l : List Nat) : Option (List Nat) := match a with
  | none => some l
  | some b => if easier p l b = true then some l else some b
theorem keep_fold {p : List Nat} : ∀ (L : List (List Nat)) (b : List Nat), ∃ r, L.foldl (keepEasier p) (some b) = some r ∧ (r = b ∨ r ∈ L) ∧ (b = r ∨ easier p r b = true) ∧ ∀ x ∈ L, x = r ∨ easier p r x = true
  | [], b => ⟨b, rfl, .inl rfl, .inl rfl, fun x hx => by cases hx⟩
  | l :: L, b => by
    rw [List.foldl_cons]
    show ∃ r, L.foldl (keepEasier p) (if easier p l b = true then some l else some b) = some r ∧ _
    by_cases h : easier p l b = true
    · rw [if_pos h]
      obtain ⟨r, e, h1, h2, h3⟩ := keep_fold L l
      refine ⟨r, e, ?_, ?_, fun x hx => ?_⟩
      · rcases h1 with rfl | h1
        · exact .inr (List.mem_cons_self ..)
        · exact .inr (List.mem_cons_of_mem _ h1)
      · rcases h2 with rfl | h2
        · exact .inr h
        · exact .inr (easier_trans h2 h)
      · rcases List.mem_cons.mp hx with rfl | hx
        · exact h2
        · exact h3 x hx
    · rw [if_neg h]
      obtain ⟨r, e, h1, h2, h3⟩ := keep_fold L b
      refine ⟨r, e, ?_, h2, fun x hx => ?_⟩
      · rcases h1 with rfl | h1
        · exact .inl rfl
        · exact .inr (List.mem_cons_of_mem _ h1)
      · rcases List.mem_cons.mp hx with rfl | hx
        · rcases easier_total p x b with rfl | q | q
          · exact h2
          · exact absurd q h
          · rcases h2 with rfl | h2
            · exact .inr q
            · exact .inr (easier_trans h2 q)
        · exact h3 x hx
/-- the easiest of a list's members -/
theorem keep_is {p : List Nat} {L : List (List Nat)} {r : List Nat} : L.foldl (keepEasier p) none = some r ↔ r ∈ L ∧ ∀ x ∈ L, x = r ∨ easier p r x = true := by
  have one : ∀ q : List Nat, L.foldl (keepEasier p) none = some q → q ∈ L ∧ ∀ x ∈ L, x = q ∨ easier p q x = true := by
    intro q h
    cases L with
    | nil => cases h
    | cons l L =>
      rw [List.foldl_cons] at h
      obtain ⟨r', e, h1, h2, h3⟩ := keep_fold (p := p) L l
      have e2 : some r' = some q := e.symm.trans h
      cases e2
      refine ⟨?_, fun x hx => ?_⟩
      · rcases h1 with rfl | h1
        · exact List.mem_cons_self ..
        · exact List.mem_cons_of_mem _ h1
      · rcases List.mem_cons.mp hx with rfl | hx
        · exact h2
        · exact h3 x hx
  refine ⟨one r, fun ⟨h1, h2⟩ => ?_⟩
  cases e : L.foldl (keepEasier p) none with
  | none =>
    cases L with
    | nil => cases h1
    | cons l L =>
      rw [List.foldl_cons] at e
      obtain ⟨r', e2, _⟩ := keep_fold (p := p) L l
      have : some r' = none := e2.symm.trans e
      cases this
  | some q =>
    obtain ⟨q1, q2⟩ := one q e
    rcases h2 q q1 with rfl | a
    · rfl
    · rcases q2 r h1 with rfl | b
      · rfl
      · have := easier_trans a b
        rw [easier_irrefl] at this
        cases this
theorem keep_none {p : List Nat} {L : List (List Nat)} : L.foldl (keepEasier p) none = none ↔ L = [] := by
  cases L with
  | nil => simp
  | cons l L =>
    rw [List.foldl_cons]
    obtain ⟨r', e2, _⟩ := keep_fold (p := p) L l
    constructor
    · intro e
      have : some r' = none := e2.symm.trans e
      cases this
    · intro e
      cases e
/-! sets of facts as lists -/
def factsOf (n x : Nat) : List Nat := (List.range n).filter fun k => x.testBit k
theorem bit_test (m k : Nat) : Pn.bit m k = m.testBit k := by
  unfold Pn.bit
  rw [Nat.testBit_eq_decide_div_mod_eq, Bool.eq_iff_iff, beq_iff_eq, decide_eq_true_eq]
theorem apart_is (n a b : Nat) : apart n a b = factsOf n (a ^^^ b) := by
  unfold Pn14.apart factsOf
  congr 1
  funext k
  rw [bit_test, bit_test, Nat.testBit_xor]
theorem mem_factsOf {n x k : Nat} : k ∈ factsOf n x ↔ k < n ∧ x.testBit k = true := by
  unfold factsOf
  rw [List.mem_filter, List.mem_range]
theorem rise_factsOf (n x : Nat) : (factsOf n x).Pairwise (· < ·) := (range_rise n).filter _
theorem factsOf_inj {n x y : Nat} (hx : x < 2 ^ n) (hy : y < 2 ^ n) (h : factsOf n x = factsOf n y) : x = y := by
  apply Nat.eq_of_testBit_eq
  intro i
  by_cases hi : i < n
  · have h1 := mem_factsOf (n := n) (x := x) (k := i)
    have h2 := mem_factsOf (n := n) (x := y) (k := i)
    rw [h] at h1
    have : x.testBit i = true ↔ y.testBit i = true := ⟨fun e => (h2.mp (h1.mpr ⟨hi, e⟩)).2, fun e => (h1.mp (h2.mpr ⟨hi, e⟩)).2⟩
    exact Bool.eq_iff_iff.mpr this
  · have hn : 2 ^ n ≤ 2 ^ i := Nat.pow_le_pow_right (by decide) (by omega)
    rw [Nat.testBit_lt_two_pow (by omega), Nat.testBit_lt_two_pow (by omega)]
/-- there is a plan from a state -/
def Can (t : Task) (s : Nat) : Prop := ∃ l, t.plan s l = true
theorem can_costs {t : Task} (o : Ok t) {s : Nat} (hs : s < 2 ^ t.facts) : (Pn.at_ t.costs s).isSome = true ↔ Can t s := by
  have h := costs_none o hs
  cases e : Pn.at_ t.costs s with
  | none =>
    have := h.mp e
    constructor
    · intro z
      cases z
    · rintro ⟨l, hl⟩
      exact absurd hl (this l)
  | some v =>
    obtain ⟨⟨l, hl, _⟩, _⟩ := (costs_some o hs).mp e
    exact ⟨fun _ => ⟨l, hl⟩, fun _ => rfl⟩
theorem xor_lt {n a b : Nat} (ha : a < 2 ^ n) (hb : b < 2 ^ n) : a ^^^ b < 2 ^ n := Nat.xor_lt_two_pow ha hb
theorem xor_back (a b : Nat) : a ^^^ (a ^^^ b) = b := by
  rw [← Nat.xor_assoc, Nat.xor_self, Nat.zero_xor]
/-- **What the specification's otherwise is**: the easiest of the sets x with which otherwise at first there is a plan. -/
theorem otherwise_some {t : Task} (o : Ok t) {p l : List Nat} : Pn14.otherwise t p = some l ↔ ∃ x, x < 2 ^ t.facts ∧ Can t (t.start ^^^ x) ∧ l = factsOf t.facts x ∧ ∀ y, y < 2 ^ t.facts → Can t (t.start ^^^ y) → y = x ∨ easier p l (factsOf t.facts y) = true := by
  have e : Pn14.otherwise t p = ((((List.range (2 ^ t.facts)).filter fun s => (Pn.at_ t.costs s).isSome).map fun s => apart t.facts t.start s).foldl (keepEasier p) none) := rfl
  rw [e, keep_is, List.mem_map]
  have mem : ∀ s, s ∈ (List.range (2 ^ t.facts)).filter (fun s => (Pn.at_ t.costs s).isSome) ↔ s < 2 ^ t.facts ∧ Can t s := by
    intro s
    rw [List.mem_filter, List.mem_range]
    constructor
    · rintro ⟨h1, h2⟩
      exact ⟨h1, (can_costs o h1).mp h2⟩
    · rintro ⟨h1, h2⟩
      exact ⟨h1, (can_costs o h1).mpr h2⟩
  constructor
  · rintro ⟨⟨s, hs, rfl⟩, h⟩
    obtain ⟨h1, h2⟩ := (mem s).mp hs
    refine ⟨t.start ^^^ s, xor_lt o.start h1, by rw [xor_back]; exact h2, apart_is _ _ _, fun y hy hc => ?_⟩
    have hy2 := xor_lt o.start hy
    rcases h _ (List.mem_map.mpr ⟨t.start ^^^ y, (mem _).mpr ⟨hy2, hc⟩, rfl⟩) with q | q
    · left
      rw [apart_is, apart_is, xor_back] at q
      exact factsOf_inj hy (xor_lt o.start h1) q
    · right
      rw [apart_is t.facts t.start (t.start ^^^ y), xor_back] at q
      exact q
  · rintro ⟨x, hx, hc, rfl, h⟩
    have hx2 := xor_lt o.start hx
    refine ⟨⟨t.start ^^^ x, (mem _).mpr ⟨hx2, hc⟩, by rw [apart_is, xor_back]⟩, fun m hm => ?_⟩
    obtain ⟨s, hs, rfl⟩ := List.mem_map.mp hm
    obtain ⟨h1, h2⟩ := (mem s).mp hs
    rcases h (t.start ^^^ s) (xor_lt o.start h1) (by rw [xor_back]; exact h2) with q | q
    · left
      rw [apart_is, q]
    · right
      rw [apart_is]
      exact q
theorem otherwise_none {t : Task} (o : Ok t) {p : List Nat} : Pn14.otherwise t p = none ↔ ∀ x, x < 2 ^ t.facts → ¬ Can t (t.start ^^^ x) := by
  have e : Pn14.otherwise t p = ((((List.range (2 ^ t.facts)).filter fun s => (Pn.at_ t.costs s).isSome).map fun s => apart t.facts t.start s).foldl (keepEasier p) none) := rfl
  rw [e, keep_none, List.map_eq_nil_iff, List.filter_eq_nil_iff]
  constructor
  · intro h x hx hc
    have hx2 := xor_lt o.start hx
    exact h _ (List.mem_range.mpr hx2) ((can_costs o hx2).mpr hc)
  · intro h s hs hc
    have hs := List.mem_range.mp hs
    refine h (t.start ^^^ s) (xor_lt o.start hs) ?_
    rw [xor_back]
    exact (can_costs o hs).mp hc
/-! a condition left out -/
def looser (a : Act) (f : Nat) : Act := { a with pre := a.pre - a.pre.land (2 ^ f), no := a.no - a.no.land (2 ^ f) }
theorem loosened_acts (t : Task) (k f : Nat) : (Pn14.loosened t k f).acts = (List.range t.acts.length).map fun i => if i = k then looser (t.act i) f else t.act i := rfl
theorem loosened_length (t : Task) (k f : Nat) : (Pn14.loosened t k f).acts.length = t.acts.length := by
  rw [loosened_acts, List.length_map, List.length_range]
theorem loosened_act {t : Task} {k f i : Nat} (h : i < t.acts.length) : (Pn14.loosened t k f).act i = if i = k then looser (t.act i) f else t.act i := by
  rw [act_get (by rw [loosened_length]; exact h)]
  simp only [loosened_acts, List.getElem_map, List.getElem_range]
theorem looser_right {a : Act} {f n : Nat} (h : a.right n = true) : (looser a f).right n = true := by
  rw [right_iff] at h ⊢
  obtain ⟨h1, h2, h3, h4, h5, h6⟩ := h
  exact ⟨Nat.lt_of_le_of_lt (Nat.sub_le _ _) h1, Nat.lt_of_le_of_lt (Nat.sub_le _ _) h2, h3, h4, h5, h6⟩
theorem loosened_ok {t : Task} (o : Ok t) (k f : Nat) : Ok (Pn14.loosened t k f) := by
  refine ⟨o.pos, o.n, by rw [loosened_length]; exact o.few, fun a ha => ?_, o.start, o.goal⟩
  rw [loosened_acts] at ha
  obtain ⟨i, hi, rfl⟩ := List.mem_map.mp ha
  have hi := List.mem_range.mp hi
  have hr := o.acts _ (act_mem hi)
  by_cases e : i = k
  · rw [if_pos e]
    exact looser_right hr
  · rw [if_neg e]
    exact hr
theorem mem_inWay {t : Task} {k f c : Nat} : (k, f, c) ∈ Pn14.inWay t ↔ k < t.acts.length ∧ f < t.facts ∧ ((t.act k).pre.testBit f || (t.act k).no.testBit f) = true ∧ Pn.at_ (Pn14.loosened t k f).costs t.start = some c := by
  unfold Pn14.inWay
  rw [List.mem_flatMap]
  constructor
  · rintro ⟨k', hk, h⟩
    obtain ⟨f', hf, h⟩ := List.mem_filterMap.mp h
    rw [bit_test, bit_test] at h
    by_cases e : ((t.act k').pre.testBit f' || (t.act k').no.testBit f') = false
    · rw [if_pos e] at h
      cases h
    · rw [if_neg e] at h
      cases e2 : Pn.at_ (Pn14.loosened t k' f').costs t.start with
      | none =>
        rw [e2] at h
        cases h
      | some v =>
        rw [e2] at h
        cases h
        refine ⟨List.mem_range.mp hk, List.mem_range.mp hf, ?_, e2⟩
        cases q : ((t.act k).pre.testBit f || (t.act k).no.testBit f) with
        | false => exact absurd q e
        | true => rfl
  · rintro ⟨h1, h2, h3, h4⟩
    refine ⟨k, List.mem_range.mpr h1, List.mem_filterMap.mpr ⟨f, List.mem_range.mpr h2, ?_⟩⟩
    rw [bit_test, bit_test, if_neg (by rw [h3]; exact Bool.noConfusion), h4]
    rfl
/-! least, by one wish left out -/
theorem had_mono {t : Task} {m k : Nat} (h : Had t m) (w : Pn.within k m = true) : Had t k := by
  obtain ⟨h1, s, h2, h3⟩ := h
  exact ⟨within_trans w h1, s, h2, within_trans w h3⟩
theorem xor_and_sum : ∀ (k m n : Nat), m < 2 ^ k → (m ^^^ n) + 2 * (m &&& n) = m + n
  | 0, m, n, h => by
    have : m = 0 := by simpa using h
    subst this
    simp
  | k + 1, m, n, h => by
    have h2 : m / 2 < 2 ^ k := by
      rw [Nat.pow_succ] at h
      omega
    have ih := xor_and_sum k (m / 2) (n / 2) h2
    rw [← Nat.xor_div_two, ← Nat.and_div_two] at ih
    have a1 := @Nat.xor_mod_two_eq_one m n
    have a2 := @Nat.and_mod_two_eq_one m n
    omega
/-- a set without one of its facts -/
def less1 (m i : Nat) : Nat := m - (m &&& 2 ^ i)
theorem less1_bits (m i j : Nat) : (less1 m i).testBit j = (m.testBit j && !decide (i = j)) := by
  unfold less1
  have h : m - (m &&& 2 ^ i) = m ^^^ (m &&& 2 ^ i) := by
    have le : m &&& 2 ^ i ≤ m := Nat.and_le_left
    have key : (m ^^^ (m &&& 2 ^ i)) + (m &&& 2 ^ i) = m := by
      have hd : (m ^^^ (m &&& 2 ^ i)) &&& (m &&& 2 ^ i) = 0 := by
        apply Nat.eq_of_testBit_eq
        intro b
        simp only [Nat.testBit_and, Nat.testBit_xor, Nat.zero_testBit]
        cases m.testBit b <;> cases (2 ^ i).testBit b <;> rfl
      have hx : (m ^^^ (m &&& 2 ^ i)) ^^^ (m &&& 2 ^ i) = m := by
        rw [Nat.xor_assoc, Nat.xor_self, Nat.xor_zero]
      have := xor_and_sum _ (m ^^^ (m &&& 2 ^ i)) (m &&& 2 ^ i) Nat.lt_two_pow_self
      rw [hd, hx] at this
      omega
    omega
  rw [h, Nat.testBit_xor, Nat.testBit_and, Nat.testBit_two_pow]
  cases m.testBit j <;> simp
theorem less1_within (m i : Nat) : Pn.within (less1 m i) m = true := within_bits.mpr fun j h => by
  rw [less1_bits, Bool.and_eq_true] at h
  exact h.1
theorem mem_least1 {t : Task} (o : Ok t) {m : Nat} : m ∈ Pn14.least t ↔ (Pn.within m t.goal = true ∧ ¬ Had t m) ∧ ∀ i, m.testBit i = true → Had t (less1 m i) := by
  rw [mem_least o]
  apply and_congr_right
  intro _
  constructor
  · intro h i hi
    refine h _ (less1_within m i) fun e => ?_
    have := less1_bits m i i
    rw [e, hi] at this
    simp at this
  · intro h k hw hne
    have : ∃ i, m.testBit i = true ∧ k.testBit i = false := by
      apply Classical.byContradiction
      intro hn
      apply hne
      apply Nat.eq_of_testBit_eq
      intro i
      cases hk : k.testBit i with
      | true => exact (within_bits.mp hw i hk).symm
      | false =>
        cases hm : m.testBit i with
        | false => rfl
        | true => exact absurd ⟨i, hm, hk⟩ hn
    obtain ⟨i, h1, h2⟩ := this
    refine had_mono (h i h1) (within_bits.mpr fun j hj => ?_)
    rw [less1_bits, within_bits.mp hw j hj, Bool.true_and, Bool.not_eq_true', decide_eq_false_iff_not]
    rintro rfl
    rw [h2] at hj
    cases hj
end Wn

set_option Elab.async false
/-! Calls in one list, read from the left. -/
namespace Wn
open PyPn14
theorem shape_cases {p : Int} {x : Nat × Nat} (h : shape p = some x) : (p = 0 ∧ x = (3, 0)) ∨ (p = 1 ∧ x = (0, 1)) ∨ (p = 2 ∧ x = (2, 0)) ∨ (p = 3 ∧ x = (0, 1)) ∨ ((p = 4 ∨ p = 5 ∨ p = 6 ∨ p = 7 ∨ p = 9) ∧ x = (0, 0)) ∨ (p = 8 ∧ x = (1, 0)) := by
  unfold shape at h
  repeat' split at h
  all_goals first | (cases h; simp_all; done) | cases h
/-- one call: its form -/
inductive Form : List (List Int) → Prop where
  | begins (a b d : Int) : Form [[0, a, b, d]]
  | act (r : List Int) : Form [[1], r]
  | from_ (a b : Int) : Form [[2, a, b]]
  | prices (r : List Int) : Form [[3], r]
  | plain (p : Int) (h : p = 4 ∨ p = 5 ∨ p = 6 ∨ p = 7 ∨ p = 9) : Form [[p]]
  | why (k : Int) : Form [[8, k]]
theorem take1 {l : List Int} (h : ¬ l.length < 1) : ∃ a t, l = a :: t := by
  match l, h with
  | a :: t, _ => exact ⟨a, t, rfl⟩
theorem take2 {l : List Int} (h : ¬ l.length < 2) : ∃ a b t, l = a :: b :: t := by
  match l, h with
  | a :: b :: t, _ => exact ⟨a, b, t, rfl⟩
  | [a], h => exact absurd (by simp) h
theorem take3 {l : List Int} (h : ¬ l.length < 3) : ∃ a b d t, l = a :: b :: d :: t := by
  match l, h with
  | a :: b :: d :: t, _ => exact ⟨a, b, d, t, rfl⟩
  | [a, b], h => exact absurd (by simp) h
  | [a], h => exact absurd (by simp) h
  | [], h => exact absurd (by simp) h
theorem rows0 {l t : List Int} {xs : List (List Int)} (h : PyFlat.rows 0 l = some (xs, t)) : xs = [] ∧ t = l := by
  cases h
  exact ⟨rfl, rfl⟩
theorem rows1 {l t : List Int} {xs : List (List Int)} (h : PyFlat.rows 1 l = some (xs, t)) : ∃ (n : Nat) (r : List Int), l = (n : Int) :: r ∧ n ≤ r.length ∧ xs = [r.take n] ∧ t = r.drop n := by
  cases l with
  | nil => cases h
  | cons n r =>
    have e : PyFlat.rows 1 (n :: r) = (match PyFlat.row (n :: r) with
      | none => none
      | some (x, s) => some ([x], s)) := by
      show (match PyFlat.row (n :: r) with
        | none => none
        | some (x, s) => match PyFlat.rows 0 s with
          | none => none
          | some (xs, t) => some (x :: xs, t)) = _
      cases PyFlat.row (n :: r) <;> rfl
    rw [e] at h
    have er : PyFlat.row (n :: r) = if 0 ≤ n ∧ n.toNat ≤ r.length then some (r.take n.toNat, r.drop n.toNat) else none := rfl
    by_cases c : 0 ≤ n ∧ n.toNat ≤ r.length
    · rw [er, if_pos c] at h
      cases h
      refine ⟨n.toNat, r, ?_, c.2, rfl, rfl⟩
      rw [Int.toNat_of_nonneg c.1]
    · rw [er, if_neg c] at h
      cases h
/-- a call is read off the list's head -/
def Reads (l : List Int) (c : List (List Int)) (t : List Int) : Prop := match c with
  | [[0, a, b, d]] => l = 0 :: a :: b :: d :: t
  | [[1], r] => l = 1 :: (r.length : Int) :: (r ++ t)
  | [[2, a, b]] => l = 2 :: a :: b :: t
  | [[3], r] => l = 3 :: (r.length : Int) :: (r ++ t)
  | [[8, k]] => l = 8 :: k :: t
  | [[p]] => l = p :: t
  | _ => False
theorem call_reads {l t : List Int} {c : List (List Int)} (h : PyFlat.call shape l = some (c, t)) : Form c ∧ Reads l c t := by
  cases l with
  | nil => cases h
  | cons p r =>
    have e : PyFlat.call shape (p :: r) = (match shape p with
      | none => none
      | some (n, k) => if r.length < n then none else match PyFlat.rows k (r.drop n) with
        | none => none
        | some (xs, t) => some ((p :: r.take n) :: xs, t)) := rfl
    rw [e] at h
    cases hs : shape p with
    | none =>
      rw [hs] at h
      cases h
    | some x =>
      rw [hs] at h
      obtain ⟨n, k⟩ := x
      dsimp only at h
      by_cases hl : r.length < n
      · rw [if_pos hl] at h
        cases h
      · rw [if_neg hl] at h
        cases hr : PyFlat.rows k (r.drop n) with
        | none =>
          rw [hr] at h
          cases h
        | some y =>
          obtain ⟨xs, t'⟩ := y
          rw [hr] at h
          have h := Option.some.inj h
          injection h with h1 h2
          subst h1 h2
          rcases shape_cases hs with ⟨rfl, hx⟩ | ⟨rfl, hx⟩ | ⟨rfl, hx⟩ | ⟨rfl, hx⟩ | ⟨hp, hx⟩ | ⟨rfl, hx⟩
          · cases hx
            obtain ⟨a, b, d, t, rfl⟩ := take3 hl
            obtain ⟨rfl, rfl⟩ := rows0 hr
            exact ⟨.begins a b d, rfl⟩
          · cases hx
            obtain ⟨n, r', e1, e2, rfl, rfl⟩ := rows1 hr
            have e1 : r = (n : Int) :: r' := e1
            subst e1
            refine ⟨.act _, ?_⟩
            show (1 : Int) :: (n : Int) :: r' = 1 :: ((r'.take n).length : Int) :: (r'.take n ++ r'.drop n)
            rw [List.take_append_drop, List.length_take, Nat.min_eq_left e2]
          · cases hx
            obtain ⟨a, b, t, rfl⟩ := take2 hl
            obtain ⟨rfl, rfl⟩ := rows0 hr
            exact ⟨.from_ a b, rfl⟩
          · cases hx
            obtain ⟨n, r', e1, e2, rfl, rfl⟩ := rows1 hr
            have e1 : r = (n : Int) :: r' := e1
            subst e1
            refine ⟨.prices _, ?_⟩
            show (3 : Int) :: (n : Int) :: r' = 3 :: ((r'.take n).length : Int) :: (r'.take n ++ r'.drop n)
            rw [List.take_append_drop, List.length_take, Nat.min_eq_left e2]
          · cases hx
            obtain ⟨rfl, rfl⟩ := rows0 hr
            refine ⟨.plain p hp, ?_⟩
            rcases hp with rfl | rfl | rfl | rfl | rfl <;> rfl
          · cases hx
            obtain ⟨a, t, rfl⟩ := take1 hl
            obtain ⟨rfl, rfl⟩ := rows0 hr
            exact ⟨.why a, rfl⟩
theorem whole_form {c : List (List Int)} (h : Form c) : whole c = c := by
  cases h with
  | plain p h => rcases h with rfl | rfl | rfl | rfl | rfl <;> rfl
  | _ => rfl
/-- the calls of a list, one behind another -/
inductive Row_ : List Int → List (List (List Int)) → Prop where
  | nil : Row_ [] []
  | cons {l t : List Int} {c : List (List Int)} {cs : List (List (List Int))} : Form c → Reads l c t → Row_ t cs → Row_ l (c :: cs)
theorem calls_row : ∀ {f : Nat} {l : List Int} {cs : List (List (List Int))}, PyFlat.calls shape f l = some cs → Row_ l cs
  | f, [], cs, h => by
    have e : PyFlat.calls shape f [] = some [] := by cases f <;> rfl
    rw [e] at h
    cases h
    exact .nil
  | 0, p :: r, cs, h => by cases h
  | f + 1, p :: r, cs, h => by
    have e : PyFlat.calls shape (f + 1) (p :: r) = (match PyFlat.call shape (p :: r) with
      | none => none
      | some (c, t) => match PyFlat.calls shape f t with
        | none => none
        | some cs => some (c :: cs)) := rfl
    rw [e] at h
    cases hc : PyFlat.call shape (p :: r) with
    | none =>
      rw [hc] at h
      cases h
    | some y =>
      obtain ⟨c, t⟩ := y
      rw [hc] at h
      dsimp only at h
      cases hd : PyFlat.calls shape f t with
      | none =>
        rw [hd] at h
        cases h
      | some ds =>
        rw [hd] at h
        cases h
        obtain ⟨h1, h2⟩ := call_reads hc
        exact .cons h1 h2 (calls_row hd)
theorem Row_.form : ∀ {l : List Int} {cs : List (List (List Int))}, Row_ l cs → ∀ c ∈ cs, Form c
  | _, _, .nil, c, h => by cases h
  | _, _, .cons h1 _ h3, c, h => by
    cases List.mem_cons.mp h with
    | inl e =>
      rw [e]
      exact h1
    | inr e => exact h3.form c e
/-- the numbers of a call, not below 0; a row not longer than 8 -/
def Fine (c : List (List Int)) : Prop := (∀ r ∈ c, ∀ x ∈ r, (0 : Int) ≤ x) ∧ ∀ p r, c = [[p], r] → r.length ≤ 8
theorem bnd {z : Int} (h : PyInside.within 0 4294967295 z = true) : (0 : Int) ≤ z := by
  unfold PyInside.within at h
  rw [Bool.and_eq_true, decide_eq_true_eq] at h
  exact h.1
theorem fine_of {c : List (List Int)} (f : Form c) (h : PyInside.call bound c = true) : Fine c := by
  cases f with
  | begins a b d =>
    have h : (PyInside.within 0 4294967295 a && (PyInside.within 0 4294967295 b && (PyInside.within 0 4294967295 d && true)) && true) = true := h
    simp only [Bool.and_eq_true] at h
    refine ⟨fun r hr x hx => ?_, fun p r e => by simp at e⟩
    rw [List.mem_singleton.mp hr] at hx
    simp only [List.mem_cons, List.not_mem_nil, or_false] at hx
    rcases hx with rfl | rfl | rfl | rfl
    · exact Int.le_refl _
    · exact bnd h.1.1
    · exact bnd h.1.2.1
    · exact bnd h.1.2.2.1
  | act l =>
    have h : (true && (decide (0 ≤ l.length) && decide (l.length ≤ 8) && l.all (PyInside.within 0 4294967295) && true)) = true := h
    simp only [Bool.and_eq_true, decide_eq_true_eq, List.all_eq_true] at h
    refine ⟨fun r hr x hx => ?_, fun p r e => ?_⟩
    · simp only [List.mem_cons, List.not_mem_nil, or_false] at hr
      rcases hr with rfl | rfl
      · rw [List.mem_singleton.mp hx]
        decide
      · exact bnd (h.2.1.2 x hx)
    · cases e
      exact h.2.1.1.2
  | from_ a b =>
    have h : (PyInside.within 0 4294967295 a && (PyInside.within 0 4294967295 b && true) && true) = true := h
    simp only [Bool.and_eq_true] at h
    refine ⟨fun r hr x hx => ?_, fun p r e => by simp at e⟩
    rw [List.mem_singleton.mp hr] at hx
    simp only [List.mem_cons, List.not_mem_nil, or_false] at hx
    rcases hx with rfl | rfl | rfl
    · decide
    · exact bnd h.1.1
    · exact bnd h.1.2.1
  | prices l =>
    have h : (true && (decide (0 ≤ l.length) && decide (l.length ≤ 8) && l.all (PyInside.within 0 4294967295) && true)) = true := h
    simp only [Bool.and_eq_true, decide_eq_true_eq, List.all_eq_true] at h
    refine ⟨fun r hr x hx => ?_, fun p r e => ?_⟩
    · simp only [List.mem_cons, List.not_mem_nil, or_false] at hr
      rcases hr with rfl | rfl
      · rw [List.mem_singleton.mp hx]
        decide
      · exact bnd (h.2.1.2 x hx)
    · cases e
      exact h.2.1.1.2
  | plain p hp =>
    refine ⟨fun r hr x hx => ?_, fun p r e => by simp at e⟩
    rw [List.mem_singleton.mp hr] at hx
    rw [List.mem_singleton.mp hx]
    omega
  | why k =>
    have h : (PyInside.within 0 4294967295 k && true && true) = true := h
    simp only [Bool.and_eq_true] at h
    refine ⟨fun r hr x hx => ?_, fun p r e => by simp at e⟩
    rw [List.mem_singleton.mp hr] at hx
    simp only [List.mem_cons, List.not_mem_nil, or_false] at hx
    rcases hx with rfl | rfl
    · decide
    · exact bnd h.1.1
/-- what the request gives -/
theorem request {l : List Int} (h : answers_asked l = true) : ∃ cs, Row_ l cs ∧ (∀ c ∈ cs, Fine c) ∧ answers l = PyFlat.told (PyFlat.played Pn14Neutral.step Pn14Neutral.start cs) ∧ (answers l).length ≤ 10000000 := by
  unfold answers_asked at h
  cases hc : PyFlat.calls shape l.length l with
  | none =>
    rw [hc] at h
    cases h
  | some cs =>
    rw [hc] at h
    simp only [Bool.and_eq_true] at h
    obtain ⟨⟨⟨⟨h1, h2⟩, h3⟩, h4⟩, h5⟩ := h
    have hr := calls_row hc
    have hf := hr.form
    have hw : cs.map whole = cs := by
      refine (List.map_congr_left fun c hc => whole_form (hf c hc)).trans (List.map_id _)
    refine ⟨cs, hr, fun c hm => fine_of (hf c hm) ?_, ?_, ?_⟩
    · unfold PyInside.calls at h3
      exact List.all_eq_true.mp h3 c hm
    · unfold answers calls
      rw [hc]
      dsimp only
      rw [hw]
    · unfold PyFlat.short at h5
      exact of_decide_eq_true h5
end Wn

set_option Elab.async false
set_option maxRecDepth 100000
set_option maxHeartbeats 4000000
/-! Ways by steps, and the rounds that find the cheapest: plain Lean. -/
namespace Wn
open Pn (Act Task)
abbrev Stp := Nat × Nat × Nat
/-- from a start by steps to a state, at what cost -/
inductive Way (S : List Nat) (L : List Stp) : Nat → Nat → Prop
  | start {s : Nat} : s ∈ S → Way S L s 0
  | step {a b c x : Nat} : Way S L a x → (a, b, c) ∈ L → Way S L b (x + c)
def lk (D : List (Nat × Nat)) (s : Nat) : Option Nat := (D.find? fun p => decide (p.1 = s)).map (·.2)
def pt (D : List (Nat × Nat)) (s v : Nat) : List (Nat × Nat) := if (lk D s).isSome = true then D.map (fun p => if p.1 = s then (p.1, v) else p) else D ++ [(s, v)]
theorem lk_nil (s : Nat) : lk [] s = none := rfl
theorem lk_pos {p : Nat × Nat} {D : List (Nat × Nat)} {s : Nat} (h : p.1 = s) : lk (p :: D) s = some p.2 := by
  unfold lk
  rw [List.find?_cons, decide_eq_true h]
  rfl
theorem lk_neg {p : Nat × Nat} {D : List (Nat × Nat)} {s : Nat} (h : ¬ p.1 = s) : lk (p :: D) s = lk D s := by
  unfold lk
  rw [List.find?_cons, decide_eq_false h]
theorem lk_none : ∀ {D : List (Nat × Nat)} {s : Nat}, lk D s = none ↔ s ∉ D.map (·.1)
  | [], s => by simp [lk_nil]
  | p :: D, s => by
    rw [List.map_cons, List.mem_cons]
    by_cases c : p.1 = s
    · rw [lk_pos c]
      constructor
      · intro h
        cases h
      · exact fun h => absurd (.inl c.symm) h
    · rw [lk_neg c, lk_none]
      constructor
      · exact fun h z => z.elim (fun z => c z.symm) h
      · exact fun h z => h (.inr z)
theorem lk_some_mem : ∀ {D : List (Nat × Nat)} {s v : Nat}, lk D s = some v → (s, v) ∈ D
  | [], s, v, h => by cases h
  | p :: D, s, v, h => by
    by_cases c : p.1 = s
    · rw [lk_pos c] at h
      rw [← c, ← Option.some.inj h]
      exact List.mem_cons_self
    · rw [lk_neg c] at h
      exact List.mem_cons_of_mem _ (lk_some_mem h)
theorem lk_of_mem : ∀ {D : List (Nat × Nat)} {s v : Nat}, (D.map (·.1)).Nodup → (s, v) ∈ D → lk D s = some v
  | [], s, v, _, h => by cases h
  | p :: D, s, v, nd, h => by
    rw [List.map_cons, List.nodup_cons] at nd
    rcases List.mem_cons.mp h with e | h
    · subst e
      exact lk_pos rfl
    · rw [lk_neg (fun z => nd.1 (List.mem_map.mpr ⟨(s, v), h, z.symm⟩))]
      exact lk_of_mem nd.2 h
theorem lk_append : ∀ {D : List (Nat × Nat)} {s v u : Nat}, lk D s = none → lk (D ++ [(s, v)]) u = if u = s then some v else lk D u
  | [], s, v, u, _ => by
    by_cases c : u = s
    · rw [if_pos c]
      exact lk_pos c.symm
    · rw [if_neg c]
      exact lk_neg fun z => c z.symm
  | p :: D, s, v, u, h => by
    have ns : ¬ p.1 = s := fun z => by
      rw [lk_pos z] at h
      cases h
    rw [lk_neg ns] at h
    rw [List.cons_append]
    by_cases c : p.1 = u
    · rw [lk_pos c, lk_pos c, if_neg (fun z => ns (c.trans z))]
    · rw [lk_neg c, lk_neg c, lk_append h]
theorem lk_map : ∀ {D : List (Nat × Nat)} {s v u : Nat}, lk (D.map fun p => if p.1 = s then (p.1, v) else p) u = (lk D u).map fun x => if u = s then v else x
  | [], s, v, u => rfl
  | p :: D, s, v, u => by
    rw [List.map_cons]
    have e1 : (if p.1 = s then (p.1, v) else p).1 = p.1 := by split <;> rfl
    by_cases c : p.1 = u
    · rw [lk_pos (e1.trans c), lk_pos c]
      show some _ = some (if u = s then v else p.2)
      by_cases c2 : p.1 = s
      · rw [if_pos c2, if_pos (c.symm.trans c2)]
      · rw [if_neg c2, if_neg (fun z => c2 (c.trans z))]
    · rw [lk_neg (fun z => c (e1.symm.trans z)), lk_neg c, lk_map]
theorem lk_pt {D : List (Nat × Nat)} {s v u : Nat} : lk (pt D s v) u = if u = s then some v else lk D u := by
  unfold pt
  by_cases h : (lk D s).isSome = true
  · rw [if_pos h, lk_map]
    by_cases c : u = s
    · subst c
      rw [if_pos rfl]
      obtain ⟨x, e⟩ := Option.isSome_iff_exists.mp h
      rw [e]
      show some (if u = u then v else x) = some _
      rw [if_pos rfl]
    · rw [if_neg c]
      cases lk D u with
      | none => rfl
      | some x =>
        show some (if u = s then v else x) = some _
        rw [if_neg c]
  · rw [if_neg h, lk_append]
    cases e : lk D s with
    | none => rfl
    | some x =>
      rw [e] at h
      exact absurd rfl h
theorem keys_map {D : List (Nat × Nat)} {s v : Nat} : (D.map fun p => if p.1 = s then (p.1, v) else p).map (·.1) = D.map (·.1) := by
  rw [List.map_map]
  refine List.map_congr_left fun p _ => ?_
  show (if p.1 = s then (p.1, v) else p).1 = p.1
  split <;> rfl
theorem keys_pt {D : List (Nat × Nat)} {s v x : Nat} : x ∈ (pt D s v).map (·.1) ↔ x = s ∨ x ∈ D.map (·.1) := by
  have h1 := @lk_none (pt D s v) x
  have h2 := @lk_none D x
  rw [lk_pt] at h1
  by_cases c : x = s
  · rw [if_pos c] at h1
    refine ⟨fun _ => .inl c, fun _ => ?_⟩
    exact Classical.not_not.mp fun z => by cases h1.mpr z
  · rw [if_neg c, h2] at h1
    refine ⟨fun z => .inr ?_, fun z => ?_⟩
    · exact Classical.not_not.mp fun y => h1.mp y z
    · rcases z with z | z
      · exact absurd z c
      · exact Classical.not_not.mp fun y => h1.mpr y z
theorem nodup_pt {D : List (Nat × Nat)} {s v : Nat} (h : (D.map (·.1)).Nodup) : ((pt D s v).map (·.1)).Nodup := by
  unfold pt
  by_cases c : (lk D s).isSome = true
  · rw [if_pos c, keys_map]
    exact h
  · rw [if_neg c, List.map_append, List.nodup_append]
    have e : lk D s = none := by
      cases e : lk D s with
      | none => rfl
      | some x =>
        rw [e] at c
        exact absurd rfl c
    refine ⟨h, by simp, fun x hx y hy => ?_⟩
    have : y = s := by simpa using hy
    rw [this]
    exact fun z => lk_none.mp e (z ▸ hx)
def total (D : List (Nat × Nat)) : Nat := (D.map (·.2)).sum
theorem total_map : ∀ {D : List (Nat × Nat)} {s v y : Nat}, (D.map (·.1)).Nodup → lk D s = some y → total (D.map fun p => if p.1 = s then (p.1, v) else p) + y = total D + v
  | [], s, v, y, _, h => by cases h
  | p :: D, s, v, y, nd, h => by
    rw [List.map_cons, List.nodup_cons] at nd
    unfold total
    rw [List.map_cons, List.map_cons, List.map_cons, List.sum_cons, List.sum_cons]
    by_cases c : p.1 = s
    · rw [lk_pos c] at h
      have e : p.2 = y := Option.some.inj h
      rw [if_pos c]
      have same : (D.map fun p => if p.1 = s then (p.1, v) else p) = D := by
        refine (List.map_congr_left fun q hq => ?_).trans (List.map_id D)
        exact if_neg fun z => nd.1 (List.mem_map.mpr ⟨q, hq, z.trans c.symm⟩)
      rw [same]
      show v + _ + y = p.2 + _ + v
      omega
    · rw [lk_neg c] at h
      have ih := total_map (v := v) nd.2 h
      unfold total at ih
      rw [if_neg c]
      omega
def phi (D : List (Nat × Nat)) : Nat := total D + 40000 * (32 - D.length)
structure Good (N : Nat) (S : List Nat) (L : List Stp) (D : List (Nat × Nat)) : Prop where
  nd : (D.map (·.1)).Nodup
  lt : ∀ x ∈ D.map (·.1), x < N
  val : ∀ p ∈ D, p.2 ≤ 1000 * D.length
  way : ∀ s v, lk D s = some v → Way S L s v
  st : ∀ s ∈ S, lk D s = some 0
theorem keys_length {N : Nat} {D : List (Nat × Nat)} (nd : (D.map (·.1)).Nodup) (lt : ∀ x ∈ D.map (·.1), x < N) : D.length ≤ N := by
  have := nodup_length (S := List.range N) nd fun x hx => List.mem_range.mpr (lt x hx)
  rwa [List.length_map, List.length_range] at this
theorem Good.length {N : Nat} {S : List Nat} {L : List Stp} {D : List (Nat × Nat)} (g : Good N S L D) : D.length ≤ N := keys_length g.nd g.lt
theorem Good.put {N : Nat} {S : List Nat} {L : List Stp} {D : List (Nat × Nat)} (g : Good N S L D) (hN : N ≤ 32) {a b c x : Nat} (ha : lk D a = some x) (hL : (a, b, c) ∈ L) (hb : b < N) (hc : c ≤ 1000)
    (h : lk D b = none ∨ ∃ y, lk D b = some y ∧ x + c < y) : Good N S L (pt D b (x + c)) ∧ phi (pt D b (x + c)) < phi D := by
  have vx : x ≤ 1000 * D.length := g.val _ (lk_some_mem ha)
  have way : ∀ s v, lk (pt D b (x + c)) s = some v → Way S L s v := by
    intro s v e
    rw [lk_pt] at e
    by_cases q : s = b
    · rw [if_pos q] at e
      rw [← Option.some.inj e, q]
      exact .step (g.way a x ha) hL
    · rw [if_neg q] at e
      exact g.way s v e
  have lt : ∀ x' ∈ (pt D b (x + c)).map (·.1), x' < N := by
    intro x' hx
    rcases keys_pt.mp hx with e | e
    · rw [e]
      exact hb
    · exact g.lt x' e
  have st : ∀ s ∈ S, lk (pt D b (x + c)) s = some 0 := by
    intro s hs
    have e0 := g.st s hs
    rw [lk_pt]
    by_cases q : s = b
    · subst q
      rcases h with h | ⟨y, h, hy⟩
      · rw [h] at e0
        cases e0
      · rw [h] at e0
        have := Option.some.inj e0
        omega
    · rw [if_neg q]
      exact e0
  have nd : ((pt D b (x + c)).map (·.1)).Nodup := nodup_pt g.nd
  have len := keys_length nd lt
  rcases h with h | ⟨y, h, hy⟩
  · have e : pt D b (x + c) = D ++ [(b, x + c)] := by
      unfold pt
      rw [h]
      exact if_neg Bool.false_ne_true
    have el : (pt D b (x + c)).length = D.length + 1 := by
      rw [e, List.length_append]
      rfl
    refine ⟨⟨nd, lt, ?_, way, st⟩, ?_⟩
    · intro p hp
      rw [el]
      rw [e] at hp
      rcases List.mem_append.mp hp with hp | hp
      · have := g.val p hp
        omega
      · rw [List.mem_singleton.mp hp]
        show x + c ≤ _
        omega
    · unfold phi
      rw [el]
      have et : total (pt D b (x + c)) = total D + (x + c) := by
        rw [e]
        unfold total
        rw [List.map_append, List.sum_append]
        simp
      rw [et]
      omega
  · have e : pt D b (x + c) = D.map (fun p => if p.1 = b then (p.1, x + c) else p) := by
      unfold pt
      rw [h]
      exact if_pos rfl
    have el : (pt D b (x + c)).length = D.length := by
      rw [e, List.length_map]
    refine ⟨⟨nd, lt, ?_, way, st⟩, ?_⟩
    · intro p hp
      rw [el]
      have vy : y ≤ 1000 * D.length := g.val _ (lk_some_mem h)
      have hl := lk_of_mem (s := p.1) (v := p.2) nd hp
      rw [lk_pt] at hl
      by_cases q : p.1 = b
      · rw [if_pos q] at hl
        have := Option.some.inj hl
        omega
      · rw [if_neg q] at hl
        exact g.val _ (lk_some_mem hl)
    · unfold phi
      rw [el]
      have := total_map (v := x + c) g.nd h
      rw [← e] at this
      omega
def Closed (L : List Stp) (D : List (Nat × Nat)) : Prop := ∀ a b c, (a, b, c) ∈ L → ∀ x, lk D a = some x → ∃ y, lk D b = some y ∧ y ≤ x + c
theorem Good.best {N : Nat} {S : List Nat} {L : List Stp} {D : List (Nat × Nat)} (g : Good N S L D) (h : Closed L D) {s x : Nat} (w : Way S L s x) : ∃ v, lk D s = some v ∧ v ≤ x := by
  induction w with
  | start hs => exact ⟨0, g.st _ hs, Nat.le_refl _⟩
  | step _ hL ih =>
    obtain ⟨v, e, hv⟩ := ih
    obtain ⟨y, e2, hy⟩ := h _ _ _ hL v e
    exact ⟨y, e2, by omega⟩
theorem Good.le {N : Nat} {S : List Nat} {L : List Stp} {D : List (Nat × Nat)} (g : Good N S L D) (h : Closed L D) (s c : Nat) : Le (lk D s) c ↔ ∃ x, Way S L s x ∧ x ≤ c := by
  constructor
  · rintro ⟨v, e, hv⟩
    exact ⟨v, g.way s v e, hv⟩
  · rintro ⟨x, w, hx⟩
    obtain ⟨v, e, hv⟩ := g.best h w
    exact ⟨v, e, Nat.le_trans hv hx⟩
/-! ### the steps of a task -/
def Steps (t : Task) (L : List Stp) : Prop := ∀ a b c, (a, b, c) ∈ L ↔ a < 2 ^ t.facts ∧ ∃ k, t.can a k = true ∧ b = (t.act k).then_ a ∧ c = (t.act k).cost
theorem Steps.lt {t : Task} (o : Ok t) {L : List Stp} (h : Steps t L) {a b c : Nat} (m : (a, b, c) ∈ L) : a < 2 ^ t.facts ∧ b < 2 ^ t.facts ∧ c ≤ 1000 := by
  obtain ⟨ha, k, hk, rfl, rfl⟩ := (h a b c).mp m
  exact ⟨ha, o.then_lt ha hk, (right_iff.mp (o.acts _ (act_mem (can_iff.mp hk).1))).2.2.2.2.2⟩
theorem way_from {t : Task} (o : Ok t) {L : List Stp} (h : Steps t L) {s0 s x : Nat} (h0 : s0 < 2 ^ t.facts) : Way [s0] L s x ↔ ∃ l, t.goes s0 l = some s ∧ t.price l = x := by
  constructor
  · intro w
    induction w with
    | start hs =>
      rw [List.mem_singleton.mp hs]
      exact ⟨[], rfl, rfl⟩
    | step _ hL ih =>
      obtain ⟨l, e1, e2⟩ := ih
      obtain ⟨_, k, hk, rfl, rfl⟩ := (h _ _ _).mp hL
      refine ⟨l ++ [k], goes_append.mpr ⟨_, e1, goes_cons.mpr ⟨hk, rfl⟩⟩, ?_⟩
      rw [price_append, price_one, e2]
  · rintro ⟨l, e1, rfl⟩
    have gen : ∀ (l : List Nat) (a y : Nat), a < 2 ^ t.facts → Way [s0] L a y → t.goes a l = some s → Way [s0] L s (y + t.price l) := by
      intro l
      induction l with
      | nil =>
        intro a y _ w e
        rw [goes_nil] at e
        rw [← Option.some.inj e]
        exact w
      | cons k l ih =>
        intro a y ha w e
        obtain ⟨hk, e⟩ := goes_cons.mp e
        have := ih _ (y + (t.act k).cost) (o.then_lt ha hk) (.step w ((h _ _ _).mpr ⟨ha, k, hk, rfl, rfl⟩)) e
        rw [price_cons]
        rwa [← Nat.add_assoc]
    have := gen l s0 0 h0 (.start (List.mem_singleton.mpr rfl)) e1
    rwa [Nat.zero_add] at this
def back (L : List Stp) : List Stp := L.map fun p => (p.2.1, p.1, p.2.2)
theorem mem_back {L : List Stp} {a b c : Nat} : (a, b, c) ∈ back L ↔ (b, a, c) ∈ L := by
  unfold back
  rw [List.mem_map]
  constructor
  · rintro ⟨⟨x, y, z⟩, h, e⟩
    cases e
    exact h
  · intro h
    exact ⟨_, h, rfl⟩
def ends (t : Task) : List Nat := (List.range (2 ^ t.facts)).filter fun s => t.done s
theorem mem_ends {t : Task} {s : Nat} : s ∈ ends t ↔ s < 2 ^ t.facts ∧ t.done s = true := by
  unfold ends
  rw [List.mem_filter, List.mem_range]
theorem way_to {t : Task} (o : Ok t) {L : List Stp} (h : Steps t L) {s x : Nat} (hs : s < 2 ^ t.facts) : Way (ends t) (back L) s x ↔ ∃ l, t.plan s l = true ∧ t.price l = x := by
  constructor
  · intro w
    clear hs
    induction w with
    | start hs => exact ⟨[], plan_iff.mpr ⟨_, rfl, (mem_ends.mp hs).2⟩, rfl⟩
    | step _ hL ih =>
      obtain ⟨l, e1, e2⟩ := ih
      obtain ⟨_, k, hk, rfl, rfl⟩ := (h _ _ _).mp (mem_back.mp hL)
      obtain ⟨u, g1, g2⟩ := plan_iff.mp e1
      refine ⟨k :: l, plan_iff.mpr ⟨u, goes_cons.mpr ⟨hk, g1⟩, g2⟩, ?_⟩
      rw [price_cons, e2, Nat.add_comm]
  · rintro ⟨l, e1, rfl⟩
    obtain ⟨u, g1, g2⟩ := plan_iff.mp e1
    clear e1
    induction l generalizing s with
    | nil =>
      rw [goes_nil] at g1
      rw [Option.some.inj g1] at hs ⊢
      exact .start (mem_ends.mpr ⟨hs, g2⟩)
    | cons k l ih =>
      obtain ⟨hk, g1⟩ := goes_cons.mp g1
      rw [price_cons, Nat.add_comm]
      exact .step (ih (o.then_lt hs hk) g1) (mem_back.mpr ((h _ _ _).mpr ⟨hs, k, hk, rfl, rfl⟩))
/-- a dict of costs, as the specification has them -/
structure Told (N : Nat) (D : List (Nat × Nat)) (f : Nat → Option Nat) : Prop where
  nd : (D.map (·.1)).Nodup
  lt : ∀ x ∈ D.map (·.1), x < N
  eq : ∀ s, s < N → lk D s = f s
theorem told_to {t : Task} (o : Ok t) {L : List Stp} (h : Steps t L) {D : List (Nat × Nat)} (g : Good (2 ^ t.facts) (ends t) (back L) D) (c : Closed (back L) D) : Told (2 ^ t.facts) D (Pn.at_ t.costs) := by
  refine ⟨g.nd, g.lt, fun s hs => le_ext fun v => ?_⟩
  rw [g.le c, costs_le o hs]
  constructor
  · rintro ⟨x, w, hx⟩
    obtain ⟨l, e1, e2⟩ := (way_to o h hs).mp w
    exact ⟨l, e1, by omega⟩
  · rintro ⟨l, e1, e2⟩
    exact ⟨_, (way_to o h hs).mpr ⟨l, e1, rfl⟩, e2⟩
theorem told_from {t : Task} (o : Ok t) {L : List Stp} (h : Steps t L) {D : List (Nat × Nat)} (g : Good (2 ^ t.facts) [t.start] L D) (c : Closed L D) : Told (2 ^ t.facts) D (Pn.at_ (Pn14.fromStart t)) := by
  refine ⟨g.nd, g.lt, fun s hs => le_ext fun v => ?_⟩
  rw [g.le c, fromStart_le o hs]
  constructor
  · rintro ⟨x, w, hx⟩
    obtain ⟨l, e1, e2⟩ := (way_from o h o.start).mp w
    exact ⟨l, e1, by omega⟩
  · rintro ⟨l, e1, e2⟩
    exact ⟨_, (way_from o h o.start).mpr ⟨l, e1, rfl⟩, e2⟩
theorem Told.out {N : Nat} {D : List (Nat × Nat)} {f : Nat → Option Nat} (h : Told N D f) {s : Nat} (hs : ¬ s < N) : lk D s = none := lk_none.mpr fun m => hs (h.lt s m)
theorem Told.of {N : Nat} {D : List (Nat × Nat)} {f : Nat → Option Nat} (h : Told N D f) {s v : Nat} (e : lk D s = some v) : s < N ∧ f s = some v := by
  have hs : s < N := h.lt s (Classical.not_not.mp fun z => by rw [lk_none.mpr z] at e; cases e)
  exact ⟨hs, (h.eq s hs).symm.trans e⟩
end Wn

set_option Elab.async false
set_option maxRecDepth 100000
set_option maxHeartbeats 4000000
/-! sorted(set(xs)) of a list of ints: the set made from a list, tracked. -/
namespace Wn
open PySem PySem.Spec PyProof.Rows L2
/-- a set just made, nothing in it -/
def bare0 (w : World) : Obj :=
  { cls := .type "set", dict := none, data := .set #[] 0 (.fresh 0 0 (!w.params.followText "set-order")) }
section
variable {P : Program} {w : World} {A : Around} {E : Value → Shared → Prop} {s : Shared}
theorem setOfList {l : Addr} {items : Array Value} (ns : List Int) {Q : Value → Shared → Prop}
    (hh : A.handled = none) (hl : s.heap.IsList l items) (hit : IntsAre items.toList ns) (hb : ns.length + 1 < scanBound)
    (fin : ∀ (g : Heap) (tk c : Nat), SetR w g s.heap.objs.size (fun j => decide (j ∈ ns)) c → c ≤ ns.length →
      (∀ b o, s.heap.get? b = some o → g.get? b = some o) → Q (.ref s.heap.objs.size) { s with heap := g, toks := tk }) :
    wpAny (model P w) A (call (.type "set") [.ref l]) Q E s := by
  have size : items.size = ns.length := by
    have q := IntsAre.length hit
    rwa [Array.length_toList] at q
  obtain ⟨c, tl, mro⟩ := F.called_set.mro
  have made := F.called_set.made
  have subty := F.called_set.sub
  refine wpAny_call (codeAny_of_tree (show wpAny _ _ (callAny (.type "set") _) _ _ _ from ?_))
  refine wpAny_pure ⟨Code.quiet_builtin _ (by decide +kernel),
    codeAny_builtin F.entry_type_call ?_⟩
  rw [Around.under_plain (weight_type_call_type "set"
    [.ref l] []) rfl]
  have n1 := F.called_set.notType
  have n2 := F.called_set.canCreate
  have n3 := F.typeCall_set_1 (.ref l)
  repeat any_goals first | assumption | wp_step
  refine codeAny_mono (code_set_led1 (.ref l) (E := E) (Q₁ := fun x z => x = .ref s.heap.objs.size ∧
    z = { s with heap := s.heap.push (bare0 w) }) ⟨rfl, rfl⟩) fun r z hr => ?_
  cases r with
  | error e => exact hr
  | ok fl =>
    cases fl with
    | ret x =>
      obtain ⟨rfl, rfl⟩ := hr
      have at0 : (s.heap.push (bare0 w)).get? s.heap.objs.size = some (bare0 w) := Heap.get?_push_size _ rfl
      have ty0 : Shared.TypeIs { s with heap := s.heap.push (bare0 w) } (.ref s.heap.objs.size) "set" := ⟨_, at0, rfl⟩
      have i1 := F.called_set.init.lookup
      have i2 := F.called_set.init.bind (.ref s.heap.objs.size)
      repeat any_goals first | assumption | wp_step
      refine codeAny_mono (codeAny_call_builtin (R := wants (fun r z => r = .none ∧ ∃ g tk c, z = { s with heap := g, toks := tk } ∧
        SetR w g s.heap.objs.size (fun j => decide (j ∈ ns)) c ∧ c ≤ ns.length ∧ (∀ b o, s.heap.get? b = some o → g.get? b = some o)) E)
        F.called_set.init.plain F.entry_set_init (check_set_init_1 ty0 ?_)) fun r2 z2 hr2 => ?_
      · obtain ⟨⟨kls, dct, dat, slo⟩, hol, hcl, nl, hdl⟩ := hl
        simp only at hcl hdl
        subst hcl hdl
        have hol' : (s.heap.push (bare0 w)).get? l = some { cls := .type "list", dict := dct, data := .seq items nl, slots := slo } := Heap.get?_push_of_some _ hol
        have no1 := F.sub_list_set
        have no2 := F.sub_list_frozenset
        have no3 : (Value.type "list" == Value.type "dict") = false := by decide
        have hl1 : (s.heap.push (bare0 w)).IsList l items := ⟨_, hol', rfl, nl, rfl⟩
        unfold Builtin.«set.__init__»
        unfold noKeywords Builtin.Frozenset.updateFrom
        generalize hPI : pyIter = PI
        wp_walk
        subst hPI
        refine wpAny_pyIter_list hl1 (wpAny_bind (wpAny_runValue ?_))
        have llt : l < s.heap.objs.size := Heap.lt_size hol
        have calm3 : A.in1.in1.in1.handled = none := by simp [hh]
        have ne1 : l ≠ (s.heap.push (bare0 w)).objs.size := by
          rw [Heap.size_push]
          exact Nat.ne_of_lt (Nat.lt_succ_of_lt llt)
        have out : s.heap.objs.size ∉ [(s.heap.push (bare0 w)).objs.size, l] := by
          rw [Heap.size_push]
          intro q
          rcases List.mem_cons.mp q with q | q
          · exact absurd q (Nat.ne_of_lt (Nat.lt_succ_self _))
          · exact absurd (List.mem_singleton.mp q) (Nat.ne_of_gt llt)
        have val : ∀ (i : Nat) (v : Value), items[i]? = some v → ∃ k t, ns[i]? = some k ∧ v = .int k t := fun i v hv => by
          have hi : i < ns.length := by
            rw [← size]
            exact (Array.getElem?_eq_some_iff.mp hv).1
          obtain ⟨t, e⟩ := IntsAre.int_at hit i v (by rw [Array.getElem?_toList]; exact hv)
          have at_i := List.getElem?_eq_getElem hi
          refine ⟨_, t, at_i, ?_⟩
          rw [e, List.getD_eq_getElem?_getD, at_i] <;> rfl
        refine set_update_ints ((Walks.list calm3 _ l ne1 items).toS) s.heap.objs.size out ns size hb val (items.size - 0) 0 _ (by omega) (Nat.zero_le _)
          ⟨⟨_, Heap.get?_push_size _ rfl, rfl, rfl⟩, (hl1.push _)⟩ ?first0 ?behind0
        case first0 =>
          exact ⟨0, Nat.le_refl 0, setR_new_at (Heap.get?_push_of_some _ at0)⟩
        case behind0 =>
          intro z c' hm hc' hS'
          obtain ⟨g, gs, dr, tk', so⟩ := z
          have eg : gs = s.gens := hm.gens
          have ed : dr = s.drawn := hm.drawn
          have eo : so = s.os := hm.os
          subst eg ed eo
          refine wpAny_pure (show wpAny _ _ (ret Value.none) _ _ _ from ?_)
          rw [size] at hc'
          refine wpAny_pure ⟨rfl, g, tk', c', rfl, hS', hc', fun b o e => ?_⟩
          have b0 : b < s.heap.objs.size := Heap.lt_size e
          refine hm.heap b o (fun q => ?_) (Heap.get?_push_of_some _ (Heap.get?_push_of_some _ e))
          rcases List.mem_cons.mp q with q | q
          · exact absurd q (Nat.ne_of_lt b0)
          · have q := List.mem_singleton.mp q
            rw [Heap.size_push] at q
            exact absurd q (Nat.ne_of_lt (Nat.lt_succ_of_lt b0))
      · cases r2 with
        | error e => exact hr2
        | ok f2 =>
          cases f2 with
          | ret r =>
            obtain ⟨rfl, g, tk, c', rfl, hS', hc', hk'⟩ := hr2
            repeat any_goals first | assumption | wp_step
            exact fin _ _ _ hS' hc' hk'
          | _ => exact hr2.elim
    | _ => exact hr.elim
end
section
variable {X : Cx}
/-- set(xs), xs a list of ints -/
def rSetI (K : PySem.W.Frag) (w : World) : List V → Hp → VK → Prop := fun vs H Q => ∃ (l : Addr) (ns : List Int), vs = [V.ref l] ∧ SqL K H l (ns.map V.int) ∧ ns.length ≤ 1000 ∧
  ∀ (p : Addr) (c : Nat), c ≤ ns.length → H p = none → Q (.ref p) (upd H p (SetO w p (fun j => decide (j ∈ ns)) c))
theorem cr_setI (hc : X.calm = true) : CallR X (.type "set") (rSetI X.K X.w) := by
  intro pins s σ H vs us Q I r h
  obtain ⟨l, ns, rfl, hq, hl, q⟩ := h
  rw [Vals.ref1 r]
  obtain ⟨its, rv, pl, hz⟩ := I.list hq
  refine setOfList ns (I.ok.hd hc) pl.isList (by simpa using ints_of_vals rv) (by unfold scanBound; omega) fun g tk c R hcn k => ?_
  have hn : H s.heap.objs.size = none := I.hok.fresh (Nat.le_refl _)
  exact ⟨.ref _, upd H s.heap.objs.size (SetO X.w s.heap.objs.size (fun j => decide (j ∈ ns)) c), I.laid (t' := tk) k (Nat.le_refl _) (setO_new R), rfl, q _ c hcn hn⟩
end
end Wn

set_option Elab.async false
set_option maxRecDepth 100000
set_option maxHeartbeats 4000000
/-! Words of my own over the hand layer. -/
namespace Wn
open PySem PySem.Spec PyProof.Rows L2
/-! ### fields by their place -/
theorem lk_ix {f : Str} {v : V} : ∀ {l : List (Str × V)} (i : Nat), (l.map Prod.fst).findIdx (· == f) = i → l[i]? = some (f, v) → l.lookup f = some v
  | [], i, _, h => by simp at h
  | (g, x) :: r, i, h, e => by
    rw [List.map_cons, List.findIdx_cons] at h
    by_cases c : (g == f) = true
    · rw [c] at h
      have h0 : i = 0 := h.symm
      subst h0
      have q : (g, x) = (f, v) := Option.some.inj e
      rw [q]
      simp [List.lookup]
    · have c' : (g == f) = false := by
        cases z : (g == f) with
        | false => rfl
        | true => exact absurd z c
      rw [c'] at h
      have hi : (r.map Prod.fst).findIdx (· == f) + 1 = i := h
      subst hi
      have fg : (f == g) = false := by
        rw [beq_eq_false_iff_ne] at c' ⊢
        exact fun q => c' q.symm
      simp only [List.lookup, fg]
      exact lk_ix _ rfl e
theorem lk_no {f : Str} : ∀ {l : List (Str × V)}, (l.map Prod.fst).contains f = false → l.lookup f = none
  | [], _ => rfl
  | (g, x) :: r, h => by
    rw [List.map_cons, List.contains_cons, Bool.or_eq_false_iff] at h
    simp only [List.lookup, h.1]
    exact lk_no h.2
theorem put_end {f : Str} {v : V} : ∀ {l : List (Str × V)}, (l.map Prod.fst).contains f = false → putF f v l = l ++ [(f, v)]
  | [], _ => rfl
  | (g, x) :: r, h => by
    rw [List.map_cons, List.contains_cons, Bool.or_eq_false_iff] at h
    have ne : ¬ g = f := fun q => by
      have := h.1
      rw [q] at this
      simp at this
    show (if g = f then (g, v) :: r else (g, x) :: putF f v r) = _
    rw [if_neg ne, put_end h.2]
    rfl
theorem put_ix {f : Str} {v : V} : ∀ {l : List (Str × V)} (i : Nat), (l.map Prod.fst).findIdx (· == f) = i → i < l.length → putF f v l = l.set i (f, v)
  | [], i, _, h => by simp at h
  | (g, x) :: r, i, h, e => by
    rw [List.map_cons, List.findIdx_cons] at h
    show (if g = f then (g, v) :: r else (g, x) :: putF f v r) = _
    by_cases c : g = f
    · subst c
      have h0 : i = 0 := by
        rw [beq_self_eq_true] at h
        exact h.symm
      subst h0
      rw [if_pos rfl]
      rfl
    · have c' : (g == f) = false := beq_eq_false_iff_ne.mpr c
      rw [c'] at h
      have hi : (r.map Prod.fst).findIdx (· == f) + 1 = i := h
      subst hi
      rw [if_neg c, put_ix _ rfl (by simpa using e)]
      rfl
/-! ### heaps -/
theorem same_upd {H H' : Hp} {p : Addr} {o : HO} (s : Same H H') (h : H p = Option.none) : Same H (upd H' p o) := fun b u e => by
  rw [upd_ne (ne_of_none e h)]
  exact s b u e
theorem same_new {H : Hp} {p : Addr} {o : HO} (h : H p = Option.none) : Same H (upd H p o) := same_upd (Same.refl H) h
theorem upd_none {H : Hp} {p b : Addr} {o : HO} (h : upd H p o b = Option.none) : b ≠ p ∧ H b = Option.none := by
  by_cases e : b = p
  · subst e
    rw [upd_same] at h
    cases h
  · rw [upd_ne e] at h
    exact ⟨e, h⟩
/-! ### bits -/
theorem and_nat (a b : Nat) : Builtin.bitAnd (a : Int) (b : Int) = ((a &&& b : Nat) : Int) := by
  simp [Builtin.bitAnd]
theorem andNot_nat (a b : Nat) : Builtin.bitAnd (a : Int) (Builtin.bitNot (b : Int)) = ((a - (a &&& b) : Nat) : Int) := by
  have h : ¬ (0 : Int) ≤ Builtin.bitNot (b : Int) := by
    unfold Builtin.bitNot
    omega
  have e : (Builtin.bitNot (Builtin.bitNot (b : Int))).toNat = b := by
    unfold Builtin.bitNot
    omega
  have le : a &&& b ≤ a := Nat.and_le_left
  simp only [Builtin.bitAnd, decide_eq_true (Int.natCast_nonneg a), decide_eq_false h, e, Int.toNat_natCast]
  omega
theorem or_nat (a b : Nat) : Builtin.bitOr (a : Int) (b : Int) = ((a ||| b : Nat) : Int) := by
  have h : ∀ c : Nat, ¬ (0 : Int) ≤ Builtin.bitNot (c : Int) := fun c => by
    unfold Builtin.bitNot
    omega
  have e2 : ∀ z : Int, Builtin.bitNot (Builtin.bitNot z) = z := fun z => by
    unfold Builtin.bitNot
    omega
  simp only [Builtin.bitOr, Builtin.bitAnd, decide_eq_false (h a), decide_eq_false (h b), e2, Int.toNat_natCast]
theorem then_nat (a : Pn.Act) (s : Nat) : Builtin.bitOr (Builtin.bitAnd (s : Int) (Builtin.bitNot (a.del : Int))) (a.add : Int) = ((a.then_ s : Nat) : Int) := by
  rw [andNot_nat, or_nat]
  rfl
/-! ### the text -/
def top (i : Nat) : Stmt := PySem.Challenge.pw_whynonedesk_s01_answers.main.body.getD i (.Pass ⟨0, 0, 0, 0⟩)
/-- an attribute's rows, written once: nats as ints -/
abbrev vN (n : Nat) : V := .int (n : Int)
abbrev lN (l : List Nat) : List V := l.map fun (n : Nat) => V.int (n : Int)
end Wn

set_option Elab.async false
set_option maxRecDepth 100000
set_option maxHeartbeats 4000000
/-! Rules that the layer lacks: list.extend of a tuple; what has just been made, locked; min of a list of data. -/
namespace Wn
open PySem PySem.Spec PyProof.Rows L2
open PySem.AutoSeq1 (wpAny_loadPart')
theorem extT (l b : Addr) (xs ys : Array Value) (n m : Nat) (dd : Option Addr) (sl : Array (Option Value)) (h0 : ¬(!xs.isEmpty && Builtin.List.listTooLong (xs.size + ys.size)) = true) (h1 : xs.size ≤ sizeLine) (h2 : xs.size + ys.size ≤ sizeLine + 1) :
    Meets (Builtin.«list.extend» ⟨[.ref l, .ref b], []⟩) (fun _ R s => s.heap.get? l = some { cls := .type "list", dict := none, data := .seq xs n, slots := #[] } ∧ s.heap.get? b = some { cls := .type "tuple", dict := dd, data := .seq ys m, slots := sl } ∧ R (.ok (.ret Value.none)) { s with heap := s.heap.update l (Obj.mapSeq fun x => x ++ ys), toks := s.toks }) := by
  refine .of_wp fun prog w A R s h => ?_
  obtain ⟨hp, g, d, tk, os⟩ := s
  obtain ⟨hl, hb, h⟩ := h
  have f1 := AutoSeq1.idx_int
  have f2 := AutoSeq1.sub_tuple_tuple
  have f3 := AutoSeq1.sub_list_list
  have f4 := AutoSeq1.sub_tuple_list
  have f5 := AutoSeq1.sub_list_tuple
  have h3 : (xs ++ ys).size ≤ sizeLine + 1 := by
    rw [Array.size_append]
    exact h2
  wp_walk using (wpAny_updateSeq hl rfl (hz := h1) (_hz' := h3)), wpAny_loadPart' hl, wpAny_loadPart' hb
  exact ⟨_, rfl, h⟩
section
variable {X : Cx}
/-- xs.extend(t), t a tuple -/
def rExtT (K : PySem.W.Frag) : V → List V → Hp → VK → Prop := fun x vs H Q => ∃ l b xs zs, x = .ref l ∧ vs = [.ref b] ∧ H l = some (.lst xs) ∧ SqT K H b zs ∧ xs.length + zs.length ≤ sizeLine ∧ Q .non (upd H l (.lst (xs ++ zs)))
theorem mt_extT : MtM X "list.extend" (rExtT X.K) := by
  intro pins s σ H x vs v us Q I rx rv h
  obtain ⟨l, b, xs, zs, rfl, rfl, hl, hb, hz, q⟩ := h
  cases rx
  obtain ⟨u, rfl, ru⟩ := rv.one
  cases ru
  obtain ⟨z, its, n, r, hn, e⟩ := I.lstM hl
  obtain ⟨its2, r2, ⟨⟨cls, dd, data, sl⟩, e2, hc, m, hd⟩, _⟩ := I.tuple hb
  simp only at hc hd
  subst hc hd
  have hn2 := r2.length
  have s0 : its.toArray.size + its2.toArray.size ≤ sizeLine := by
    simp only [List.size_toArray]
    omega
  have long : ¬ (!its.toArray.isEmpty && Builtin.List.listTooLong (its.toArray.size + its2.toArray.size)) = true := by
    rw [notLongL s0]
    simp
  have M := extT l b its.toArray its2.toArray n m dd sl long (by simp only [List.size_toArray]; omega) (by omega)
  refine call_meets F.slot_list_extend ⟨_, e, rfl⟩ F.entry_list_extend (F.args_list_extend_2 _ _) M ⟨e, e2, ?_⟩
  refine ⟨.non, _, I.lset (its' := its ++ its2) hl e (by simp) (r.append r2) ?_, rfl, q⟩
  rw [List.length_append]
  exact hz
/-- what an expression gives, locked from there on -/
def tLockN (t : TE) : TE := fun σ H Q => t σ H fun v H1 => ∃ d u, H1 d = some u ∧ Mut (some u) ∧ ∀ od, Q v (upd H1 d (.frz od u))
theorem pe_lockN {e : Expr} {t : TE} (h : PE X e t) : PE X e (tLockN t) := by
  refine ⟨fun pins s σ H Q I hw => ?_⟩
  refine thn (h.run pins s σ _ _ I hw) fun v s1 q => ?_
  obtain ⟨x, H1, I2, r, d, u, hd, mu, q⟩ := q
  obtain ⟨od, I3⟩ := I2.lock hd mu
  exact ⟨x, _, I3, r, q od⟩
open PySem.W in
/-- min(xs), xs a list of data of one Lean type -/
def rMinD (K : PySem.W.Frag) (α : Type) [DecidableEq α] [DatumOrd α] : List V → Hp → VK → Prop := fun vs H Q => ∃ (a : Addr) (ts : List V) (x : α) (xs : List α), vs = [V.ref a] ∧ SqL K H a ts ∧ DpAll K H ts ((x :: xs).map Datum.toD) ∧ Datum.depth α ≤ 60 ∧
  ∀ (i : Nat) (v : V), ts[i]? = some v → (x :: xs)[i]? = some (minOf x xs) → Q v H
open PySem.W in
theorem toD_inj {α : Type} [DecidableEq α] [Datum α] {a b : α} (h : Datum.toD a = Datum.toD b) : a = b := by
  have e := Datum.eqv a b
  rw [h, Datum.eqv b b, decide_eq_true rfl] at e
  exact of_decide_eq_true e.symm
open PySem.W in
theorem cr_minD {α : Type} [DecidableEq α] [DatumOrd α] (hc : X.calm = true) (hu : X.A.units + 64 < cLine) : CallR X (.builtin "min") (rMinD X.K α) := by
  intro pins s σ H vs us Q I r h
  obtain ⟨a, ts, x, xs, rfl, ha, hd, h60, q⟩ := h
  obtain ⟨its, rv, hl, _⟩ := I.list ha
  rw [Vals.ref1 r]
  obtain ⟨as, rs⟩ := Dp.readsAll I _ _ _ hd rv
  have hr : ReadsAll s.heap its.toArray.toList ((x :: xs).map Datum.toD) as := by simpa using rs
  have al : AlikeAll ((x :: xs).map Datum.toD) := alikeAll_datum (x :: xs)
  have dp : X.A.in1.units + PyData.depthAll ((x :: xs).map Datum.toD) < cLine := by
    have := depthAll_map (x :: xs)
    show X.A.units + 1 + _ < _
    omega
  have n1 := readsAll_len hr
  rw [List.length_map, List.length_cons] at n1
  refine call_min_walkH (iter_listW (A := X.A.in1) (I.ok.hd hc) hl.isList fun s2 e W st hfp hw hk => ?_)
  refine ⟨_, _, _, _, _, _, _, s.heap, _, rfl, W, st, hfp, by rw [n1]; exact Nat.succ_pos _, hw, hk, cmpIn_lt (A := X.A.in1) hr al dp, ?_⟩
  intro v s' hP m
  obtain ⟨h', tk, rfl, hk'⟩ := moved_old e rfl m
  rw [show its.toArray.size - 1 = xs.length by omega] at hP
  have AF := argBest_fold dataLt PyData.none (Datum.toD x) (xs.map Datum.toD) xs.length (by rw [List.length_map]; exact Nat.le_refl _)
  have a1 := AF.1
  have a2 := AF.2
  rw [show (xs.map (Datum.toD (α := α))).take xs.length = xs.map Datum.toD by rw [List.take_of_length_le]; rw [List.length_map]; exact Nat.le_refl _] at a2
  have a3 := a2.trans (minD_map x xs)
  rw [← List.map_cons] at a1 a3
  generalize hi : argBest (fun i j => dataLt ((List.map Datum.toD (x :: xs)).getD i PyData.none) ((List.map Datum.toD (x :: xs)).getD j PyData.none)) xs.length = i at a1 a3
  have hP' : its.toArray[i]? = some v := by
    rw [← hi]
    exact hP
  have hil : i < (x :: xs).length := by
    rw [List.length_cons]
    omega
  have ey : (x :: xs)[i]? = some (minOf x xs) := by
    rw [List.getElem?_eq_getElem hil]
    rw [List.getD_eq_getElem?_getD, List.getElem?_map, List.getElem?_eq_getElem hil] at a3
    exact congrArg some (toD_inj a3)
  have hti : i < ts.length := by
    have := rv.length
    rw [List.size_toArray] at n1
    rw [List.length_cons] at hil
    omega
  obtain ⟨u, hu1, hu2⟩ : ∃ u, its[i]? = some u ∧ RelV ts[i] u := Vals.get rv (List.getElem?_eq_getElem hti)
  have euv : u = v := by
    have z : its[i]? = some v := by simpa using hP'
    rw [hu1] at z
    exact Option.some.inj z
  subst euv
  exact ⟨ts[i], H, I.kept hk', hu2, q i _ (List.getElem?_eq_getElem hti) ey⟩
end
end Wn

set_option Elab.async false
set_option maxRecDepth 100000
set_option maxHeartbeats 4000000
/-! The class Act. -/
namespace Wn
open PySem PySem.Spec PyProof.Rows L2
abbrev Ac := Pn.Act
abbrev Tk := Pn.Task
abbrev sAct : Stmt := top 1
abbrev sActInit : Stmt := inClass sAct 0
abbrev sMay : Stmt := inClass sAct 1
abbrev sBehind : Stmt := inClass sAct 2
abbrev sWithout : Stmt := inClass sAct 3
abbrev sHasAll : Stmt := top 3
def aF (a : Ac) : List (Str × V) := [("needs", vN a.pre), ("bars", vN a.no), ("brings", vN a.add), ("takes", vN a.del), ("cost", vN a.cost)]
def aK : List Str := ["needs", "bars", "brings", "takes", "cost"]
def ActAt (C : Addr) (H : Hp) (p : Addr) (a : Ac) : Prop := ∃ dx, H p = some (.ins C dx (aF a))
theorem ActAt.keep {C : Addr} {H H' : Hp} {p : Addr} {a : Ac} (h : ActAt C H p a) (s : ∀ o, H p = some o → H' p = some o) : ActAt C H' p a := by
  obtain ⟨dx, h⟩ := h
  exact ⟨dx, s _ h⟩
theorem aF_needs (a : Ac) : (aF a).lookup ("needs" : Str) = some (vN a.pre) := lk_ix 0 (show aK.findIdx (· == ("needs" : Str)) = 0 by decide +kernel) rfl
theorem aF_bars (a : Ac) : (aF a).lookup ("bars" : Str) = some (vN a.no) := lk_ix 1 (show aK.findIdx (· == ("bars" : Str)) = 1 by decide +kernel) rfl
theorem aF_brings (a : Ac) : (aF a).lookup ("brings" : Str) = some (vN a.add) := lk_ix 2 (show aK.findIdx (· == ("brings" : Str)) = 2 by decide +kernel) rfl
theorem aF_takes (a : Ac) : (aF a).lookup ("takes" : Str) = some (vN a.del) := lk_ix 3 (show aK.findIdx (· == ("takes" : Str)) = 3 by decide +kernel) rfl
theorem aF_cost (a : Ac) : (aF a).lookup ("cost" : Str) = some (vN a.cost) := lk_ix 4 (show aK.findIdx (· == ("cost" : Str)) = 4 by decide +kernel) rfl
theorem aF_no (a : Ac) {m : Str} (h : aK.contains m = false) : (aF a).lookup m = none := lk_no (show ((aF a).map Prod.fst).contains m = false from h)
structure TxA (K : PySem.W.Frag) (C : Addr) : Prop where
  cl : Cls K C
  n1 : NoAttr K C "needs"
  n2 : NoAttr K C "bars"
  n3 : NoAttr K C "brings"
  n4 : NoAttr K C "takes"
  n5 : NoAttr K C "cost"
/-! promises -/
def spActInit (C : Addr) : Sp := fun vs H Q _ => ∃ (p dx : Addr) (a : Ac), vs = [.ref p, vN a.pre, vN a.no, vN a.add, vN a.del, vN a.cost] ∧ H p = some (.ins C dx []) ∧
  ∀ H' : Hp, ActAt C H' p a → (∀ b o, H b = some o → b ≠ p → H' b = some o) → Q .non H'
def spHasAll : Sp := fun vs H Q _ => ∃ s m : Nat, vs = [vN s, vN m] ∧ Q (.bl (Pn.within m s)) H
def spMay (C : Addr) : Sp := fun vs H Q _ => ∃ (p : Addr) (a : Ac) (s : Nat), vs = [.ref p, vN s] ∧ ActAt C H p a ∧ Q (.bl (a.may s)) H
def spBehind (C : Addr) : Sp := fun vs H Q _ => ∃ (p : Addr) (a : Ac) (s : Nat), vs = [.ref p, vN s] ∧ ActAt C H p a ∧ Q (vN (a.then_ s)) H
section
variable {P : Program} {w : World} {K : PySem.W.Frag} {mg : Str → Option Value} {base : Heap} {C : Addr}
theorem scActInit : FnScope ["self", "needs", "bars", "brings", "takes", "cost"] ["self", "needs", "bars", "brings", "takes", "cost"] (defScope sActInit) := ⟨rfl, rfl, rfl, by decide +kernel, rfl, by decide +kernel, by decide +kernel⟩
theorem ok_actInit {f : Addr} {fd : FuncData} (F : Fun K "__init__" "Act.__init__" sActInit f fd) (T : TxA K C) : FnOk P w K mg base CX0 1 f fd ["self", "needs", "bars", "brings", "takes", "cost"] (spActInit C) := by
  refine F.ok scActInit (fun vs H Q E h => ?_) (fun cdv A outer s H vs Q E hr h => ?_)
  · obtain ⟨p, dx, a, rfl, _⟩ := h
    rfl
  · obtain ⟨p, dx, a, rfl, hp, k⟩ := h
    refine ⟨_, pss_cons (ps_fld (pv 0) (pv 1) rfl) (pss_cons (ps_fld (pv 0) (pv 2) rfl) (pss_cons (ps_fld (pv 0) (pv 3) rfl) (pss_cons (ps_fld (pv 0) (pv 4) rfl) (pss_one (ps_fld (pv 0) (pv 5) rfl))))), ?_⟩
    refine ⟨_, rfl, _, rfl, p, C, dx, [], rfl, hp, T.cl, T.n1, (by show 0 < 1000; decide), ?_⟩
    refine ⟨_, rfl, _, rfl, p, C, dx, _, rfl, upd_same, T.cl, T.n2, (by show 1 < 1000; decide), ?_⟩
    rw [put_end (show ((["needs"] : List Str)).contains "bars" = false by decide +kernel)]
    refine ⟨_, rfl, _, rfl, p, C, dx, _, rfl, upd_same, T.cl, T.n3, (by show 2 < 1000; decide), ?_⟩
    rw [put_end (show ((["needs", "bars"] : List Str)).contains "brings" = false by decide +kernel)]
    refine ⟨_, rfl, _, rfl, p, C, dx, _, rfl, upd_same, T.cl, T.n4, (by show 3 < 1000; decide), ?_⟩
    rw [put_end (show ((["needs", "bars", "brings"] : List Str)).contains "takes" = false by decide +kernel)]
    refine ⟨_, rfl, _, rfl, p, C, dx, _, rfl, upd_same, T.cl, T.n5, (by show 4 < 1000; decide), ?_⟩
    rw [put_end (show ((["needs", "bars", "brings", "takes"] : List Str)).contains "cost" = false by decide +kernel)]
    exact k _ ⟨dx, upd_same⟩ fun b o e hb => by
      rw [upd_ne hb, upd_ne hb, upd_ne hb, upd_ne hb, upd_ne hb]
      exact e
theorem scHasAll : FnScope ["state", "facts"] ["state", "facts"] (defScope sHasAll) := ⟨rfl, rfl, rfl, by decide +kernel, rfl, by decide +kernel, by decide +kernel⟩
theorem ok_hasAll {f : Addr} {fd : FuncData} (F : Fun K "has_all" "has_all" sHasAll f fd) : FnOk P w K mg base CX0 1 f fd ["state", "facts"] spHasAll := by
  refine F.ok scHasAll (fun vs H Q E h => ?_) (fun cdv A outer s H vs Q E hr h => ?_)
  · obtain ⟨s, m, rfl, _⟩ := h
    rfl
  · obtain ⟨n, m, rfl, k⟩ := h
    refine ⟨_, pss_one (ps_ret (pe_cmpR op_eq (pe_op op_and (pv 0) (pv 1)) (pv 1) (nomark _))), ?_⟩
    refine ⟨_, rfl, _, rfl, _, _, rfl, rfl, _, rfl, rfl, ?_⟩
    have e1 : decide (V.int (Builtin.bitAnd (n : Int) (m : Int)) = V.int (m : Int)) = Pn.within m n := by
      rw [and_nat]
      unfold Pn.within
      rw [Bool.eq_iff_iff, decide_eq_true_eq, beq_iff_eq, V.int.injEq, Int.natCast_inj]
      rw [show m.land n = m &&& n from rfl, Nat.and_comm]
    show Q (V.bl (decide (V.int (Builtin.bitAnd (n : Int) (m : Int)) = V.int (m : Int)))) H
    rw [e1]
    exact k
theorem scMay : FnScope ["self", "state"] ["self", "state"] (defScope sMay) := ⟨rfl, rfl, rfl, by decide +kernel, rfl, by decide +kernel, by decide +kernel⟩
theorem ok_may {f fH : Addr} {fd fdH : FuncData} (F : Fun K "may_be_done" "Act.may_be_done" sMay f fd) (T : TxA K C)
    (GH : FnOk P w K mg base CX0 1 fH fdH ["state", "facts"] spHasAll) (bH : Binds K fdH ["state", "facts"] []) (mH : mg "has_all" = some (.ref fH)) (kH : PySem.W.keepIn K (.ref fH) = true) : FnOk P w K mg base CX0 2 f fd ["self", "state"] (spMay C) := by
  refine F.ok scMay (fun vs H Q E h => ?_) (fun cdv A outer s H vs Q E hr h => ?_)
  · obtain ⟨p, a, n, rfl, _⟩ := h
    rfl
  · obtain ⟨p, a, n, rfl, ⟨dx, hp⟩, k⟩ := h
    refine ⟨_, pss_one (ps_ret (pe_and (pe_call GH hr rfl mH kH bH .nil pass0 (pa_cons (pv 1) (pa_cons (pe_fld (pv 0) rfl) pa_nil))) (pe_one (pe_cmpR op_eq (pe_op op_and (pv 1) (pe_fld (pv 0) rfl)) pe_int (nomark _))))), ?_⟩
    refine ⟨_, rfl, _, rfl, p, C, dx, _, _, rfl, hp, T.cl, T.n1, aF_needs a, n, a.pre, rfl, _, rfl, ?_⟩
    have e2 : decide (V.int (Builtin.bitAnd (n : Int) (a.no : Int)) = V.int 0) = Pn.apart a.no n := by
      rw [and_nat]
      unfold Pn.apart
      rw [Bool.eq_iff_iff, decide_eq_true_eq, beq_iff_eq, V.int.injEq]
      rw [show a.no.land n = a.no &&& n from rfl, Nat.and_comm]
      omega
    have e : a.may n = (Pn.within a.pre n && Pn.apart a.no n) := rfl
    rw [e] at k
    cases c : Pn.within a.pre n with
    | false =>
      rw [c] at k
      exact iteF k
    | true =>
      rw [c] at k
      refine iteT ⟨_, rfl, _, rfl, p, C, dx, _, _, rfl, hp, T.cl, T.n2, aF_bars a, _, _, rfl, rfl, rfl, ?_⟩
      show Q (V.bl (decide (V.int (Builtin.bitAnd (n : Int) (a.no : Int)) = V.int 0))) H
      rw [e2]
      exact k
theorem scBehind : FnScope ["self", "state"] ["self", "state"] (defScope sBehind) := ⟨rfl, rfl, rfl, by decide +kernel, rfl, by decide +kernel, by decide +kernel⟩
theorem ok_behind {f : Addr} {fd : FuncData} (F : Fun K "state_behind" "Act.state_behind" sBehind f fd) (T : TxA K C) : FnOk P w K mg base CX0 1 f fd ["self", "state"] (spBehind C) := by
  refine F.ok scBehind (fun vs H Q E h => ?_) (fun cdv A outer s H vs Q E hr h => ?_)
  · obtain ⟨p, a, n, rfl, _⟩ := h
    rfl
  · obtain ⟨p, a, n, rfl, ⟨dx, hp⟩, k⟩ := h
    refine ⟨_, pss_one (ps_ret (pe_op op_or (pe_op op_and (pv 1) (pe_un un_inv (pe_fld (pv 0) rfl))) (pe_fld (pv 0) rfl))), ?_⟩
    refine ⟨_, rfl, _, rfl, p, C, dx, _, _, rfl, hp, T.cl, T.n4, aF_takes a, _, rfl, _, _, rfl, rfl, _, rfl, p, C, dx, _, _, rfl, hp, T.cl, T.n3, aF_brings a, _, _, rfl, rfl, ?_⟩
    show Q (V.int (Builtin.bitOr (Builtin.bitAnd (n : Int) (Builtin.bitNot (a.del : Int))) (a.add : Int))) H
    rw [then_nat]
    exact k
end
end Wn

set_option Elab.async false
set_option maxRecDepth 100000
set_option maxHeartbeats 4000000
/-! reached_states. -/
namespace Wn
open PySem PySem.Spec PyProof.Rows L2
abbrev sReached : Stmt := top 4
def ActsAt (C : Addr) (H : Hp) (ps : List Addr) (as : List Ac) : Prop := ps.length = as.length ∧ ∀ (i : Nat) (p : Addr), ps[i]? = some p → ∃ a, as[i]? = some a ∧ ActAt C H p a
theorem ActsAt.keep {C : Addr} {H H' : Hp} {ps : List Addr} {as : List Ac} (h : ActsAt C H ps as) (s : ∀ (p dx : Addr) (a : Ac), H p = some (.ins C dx (aF a)) → H' p = some (.ins C dx (aF a))) : ActsAt C H' ps as :=
  ⟨h.1, fun i p e => by
    obtain ⟨a, ea, dx, ha⟩ := h.2 i p e
    exact ⟨a, ea, dx, s _ _ _ ha⟩⟩
theorem ActsAt.same {C : Addr} {H H' : Hp} {ps : List Addr} {as : List Ac} (h : ActsAt C H ps as) (s : Same H H') : ActsAt C H' ps as := h.keep fun p _ _ e => s p _ e
/-! a dict of True -/
def kvT (R : List Nat) : List (Key × V) := R.map fun (n : Nat) => (Sum.inl (n : Int), V.bl true)
theorem valT : ∀ (R : List Nat) (n : Nat), (valV (kvT R) (Sum.inl (n : Int))).isSome = R.contains n
  | [], n => rfl
  | m :: R, n => by
    rw [List.contains_cons]
    by_cases e : m = n
    · subst e
      rw [show kvT (m :: R) = (Sum.inl (m : Int), V.bl true) :: kvT R from rfl, valV_pos rfl]
      simp
    · rw [show kvT (m :: R) = (Sum.inl (m : Int), V.bl true) :: kvT R from rfl, valV_neg (fun q : (Sum.inl (m : Int) : Key) = Sum.inl (n : Int) => e (by injection q with q; omega)), valT R n]
      have : (n == m) = false := beq_eq_false_iff_ne.mpr fun q => e q.symm
      rw [this, Bool.false_or]
theorem putT {R : List Nat} {n : Nat} (h : R.contains n = false) : putK (kvT R) (Sum.inl (n : Int)) (V.bl true) = kvT (R ++ [n]) := by
  unfold putK
  rw [valV_any, valT, h, if_neg Bool.false_ne_true]
  unfold kvT
  rw [List.map_append]
  rfl
theorem lN_get {R : List Nat} {i : Nat} {x : V} (h : (lN R)[i]? = some x) : ∃ n, R[i]? = some n ∧ x = vN n := by
  rw [List.getElem?_map] at h
  cases e : R[i]? with
  | none =>
    rw [e] at h
    cases h
  | some n =>
    rw [e] at h
    exact ⟨n, rfl, (Option.some.inj h).symm⟩
theorem ref_get {ps : List Addr} {i : Nat} {x : V} (h : (ps.map V.ref)[i]? = some x) : ∃ p, ps[i]? = some p ∧ x = .ref p := by
  rw [List.getElem?_map] at h
  cases e : ps[i]? with
  | none =>
    rw [e] at h
    cases h
  | some n =>
    rw [e] at h
    exact ⟨n, rfl, (Option.some.inj h).symm⟩
/-- what is come to so far -/
structure Some_ (t : Tk) (s0 : Nat) (R : List Nat) : Prop where
  nd : R.Nodup
  all : ∀ s ∈ R, Rch t s0 s
  fst : s0 ∈ R
theorem Some_.length {t : Tk} (o : Ok t) {s0 : Nat} {R : List Nat} (h0 : s0 < 2 ^ t.facts) (h : Some_ t s0 R) : R.length ≤ 2 ^ t.facts := by
  have := nodup_length (S := List.range (2 ^ t.facts)) h.nd fun x hx => List.mem_range.mpr ((h.all x hx).lt o h0)
  rwa [List.length_range] at this
theorem two32 {n : Nat} (h : n ≤ 5) : 2 ^ n ≤ 32 := Nat.pow_le_pow_right (n := 2) (by decide) h
/-! the promise -/
def spReached (K : PySem.W.Frag) (C : Addr) : Sp := fun vs H Q _ => ∃ (t : Tk) (s0 : Nat) (la : Addr) (ps : List Addr), vs = [vN s0, .ref la] ∧ Ok t ∧ s0 < 2 ^ t.facts ∧ SqL K H la (ps.map V.ref) ∧ ActsAt C H ps t.acts ∧
  ∀ (H' : Hp) (p : Addr) (R : List Nat), Same H H' → H p = none → H' p = some (.lst (lN R)) → R.Nodup → (∀ s, s ∈ R ↔ Rch t s0 s) → Q (.ref p) H'
section
variable {P : Program} {w : World} {K : PySem.W.Frag} {mg : Str → Option Value} {base : Heap} {C : Addr}
theorem scReached : FnScope ["first", "acts", "reached", "seen", "place", "state", "act", "behind"] ["first", "acts"] (defScope sReached) := ⟨rfl, rfl, rfl, by decide +kernel, rfl, by decide +kernel, by decide +kernel⟩
theorem ok_reached {f fM fB : Addr} {fd fdM fdB : FuncData} (F : Fun K "reached_states" "reached_states" sReached f fd) (T : TxA K C) (len : mg "len" = none)
    (GM : FnOk P w K mg base CX0 2 fM fdM ["self", "state"] (spMay C)) (bM : Binds K fdM ["self", "state"] []) (mM : Meth K C "may_be_done" fM)
    (GB : FnOk P w K mg base CX0 1 fB fdB ["self", "state"] (spBehind C)) (bB : Binds K fdB ["self", "state"] []) (mB : Meth K C "state_behind" fB) : FnOk P w K mg base CX0 3 f fd ["first", "acts"] (spReached K C) := by
  refine F.ok scReached (fun vs H Q E h => ?_) (fun cdv A outer s H vs Q E hr h => ?_)
  · obtain ⟨t, s0, la, ps, rfl, _⟩ := h
    rfl
  · obtain ⟨t, s0, la, ps, rfl, o, h0, hla, hA, k⟩ := h
    have hu := hu_of hr
    refine ⟨_, pss_cons (ps_set (i := 2) scReached.nd rfl (Or.inl rfl) (pe_lst (pa_cons (pv 0) pa_nil)))
      (pss_cons (ps_set (i := 3) scReached.nd rfl (Or.inl rfl) (pe_disp (pps_cons (pv 0) pe_bl pps_nil) (by rfl) (by rfl) (fun z => by cases z) (by decide)))
      (pss_cons (ps_set (i := 4) scReached.nd rfl (Or.inl rfl) pe_int)
      (pss_cons (ps_while PassesOwn.never (pt_cmpR op_lt (pv 4) (pe_callB call_len_seq (by rfl) len PySem.boot_len (pa_cons (pv 2) pa_nil)) (nomark _))
        (pss_cons (ps_set (i := 5) scReached.nd rfl (Or.inl rfl) (pe_ix ix_list (pv 2) (pv 4) (fun _ _ => rfl)))
        (pss_cons (ps_set (i := 4) scReached.nd rfl (Or.inl rfl) (pe_op op_add (pv 4) pe_int))
        (pss_one (ps_for PassesOwn.never rfl (pi_list (pv 1)) (pg_name (i := 6) scReached.nd rfl (Or.inl rfl))
          (pss_one (ps_if (pt_val (pe_meth (pv 6) T.cl mM GM hr bM .nil pass0 (pa_cons (pv 5) pa_nil)))
            (pss_cons (ps_set (i := 7) scReached.nd rfl (Or.inl rfl) (pe_meth (pv 6) T.cl mB GB (hr.mono (by decide)) bB .nil pass0 (pa_cons (pv 5) pa_nil)))
            (pss_one (ps_if (pt_cmp (pc_dnotin hu (pv 7) (pv 3)))
              (pss_cons (ps_dput hu (pv 3) (pv 7) pe_bl rfl)
              (pss_one (ps_expr (pe_bm PySem.F.plainAttrs_list PySem.F.slot_list_append PySem.F.type_list_append mt_append (pv 2) (pa_cons (pv 7) pa_nil))))) pss_nil))) pss_nil)))))))
      (pss_one (ps_ret (pv 2)))))), ?_⟩
    refine ⟨_, rfl, (by show 1 ≤ sizeLine; decide), fun r hr0 => ?_⟩
    intro d hd0
    refine ⟨_, rfl, upd_same, [(Sum.inl (s0 : Int), V.bl true)], rfl, (by show 1 ≤ 15; decide), ?_⟩
    have ndr : d ≠ r := (upd_none hd0).1
    have hd1 : H d = Option.none := (upd_none hd0).2
    have p2 : 2 ^ t.facts ≤ 32 := two32 o.n
    refine ⟨fun m σ H' => ∃ (p : Nat) (R : List Nat) (v5 v6 v7 : Option V), m = 2 ^ t.facts - p ∧ σ = [some (vN s0), some (.ref la), some (.ref r), some (.ref d), some (vN p), v5, v6, v7] ∧ Same H H' ∧ H' r = some (.lst (lN R)) ∧ H' d = some (.dK (kvT R)) ∧
      Some_ t s0 R ∧ p ≤ R.length ∧ ∀ (i s : Nat), i < p → R[i]? = some s → ∀ j, t.can s j = true → (t.act j).then_ s ∈ R, ⟨_, 0, [s0], none, none, none, rfl, rfl, ?_, ?_, ?_, ⟨by simp, fun s hs => by rw [List.mem_singleton.mp hs]; exact Rch.refl, List.mem_singleton.mpr rfl⟩, Nat.zero_le _, fun i s hi => by omega⟩, ?_⟩
    · exact same_upd (same_upd (same_new hr0) hd1) hd1
    · rw [upd_ne ndr.symm, upd_ne ndr.symm, upd_same]
      rfl
    · rw [upd_same]
      rfl
    · rintro m σ H' ⟨p, R, v5, v6, v7, rfl, rfl, s1, hR, hD, hS, hp, hC⟩
      refine ⟨_, rfl, _, rfl, r, _, rfl, .inl (SqL.of hR), _, _, rfl, rfl, _, rfl, ?_⟩
      have hl := hS.length o h0
      refine ite2 (fun c => ?_) (fun c => ?_)
      · have c := of_decide_eq_true c
        rw [List.length_map] at c
        have hlt : p < R.length := by omega
        obtain ⟨st, hst⟩ : ∃ st, R[p]? = some st := ⟨_, List.getElem?_eq_getElem hlt⟩
        refine ⟨fun σ' H2 => ∃ (R' : List Nat) (v6 v7 : Option V), σ' = [some (vN s0), some (.ref la), some (.ref r), some (.ref d), some (vN (p + 1)), some (vN st), v6, v7] ∧ Same H H2 ∧ H2 r = some (.lst (lN R')) ∧ H2 d = some (.dK (kvT R')) ∧
          Some_ t s0 R' ∧ p + 1 ≤ R'.length ∧ ∀ (i s : Nat), i < p + 1 → R'[i]? = some s → ∀ j, t.can s j = true → (t.act j).then_ s ∈ R', ?_, ?_⟩
        · rintro σ' H2 ⟨R', w6, w7, rfl, q1, q2, q3, q4, q5, q6⟩
          exact ⟨_, by omega, p + 1, R', _, w6, w7, rfl, rfl, q1, q2, q3, q4, q5, q6⟩
        · refine ⟨_, rfl, _, rfl, r, _, _, _, rfl, rfl, SqL.of hR, atI_nat (by rw [List.getElem?_map, hst]; rfl), ?_⟩
          refine ⟨_, rfl, _, _, rfl, rfl, ?_⟩
          refine ⟨_, rfl, la, rfl, ⟨_, s1.seq hla⟩, for_list (K := K) (a := la) (xs := ps.map V.ref) (fun i σ' H2 => ∃ (R' : List Nat) (v6 v7 : Option V), σ' = [some (vN s0), some (.ref la), some (.ref r), some (.ref d), some (vN (p + 1)), some (vN st), v6, v7] ∧ Same H H2 ∧ H2 r = some (.lst (lN R')) ∧ H2 d = some (.dK (kvT R')) ∧
            Some_ t s0 R' ∧ (∃ more, R' = R ++ more) ∧ ∀ j, j < i → t.can st j = true → (t.act j).then_ st ∈ R')
            ⟨R, v6, v7, rfl, s1, hR, hD, hS, ⟨[], (List.append_nil _).symm⟩, fun j hj => by omega⟩ (fun i σ' H2 _ ⟨_, _, _, _, q, _⟩ => q.seq hla) ?_ ?_⟩
          · rintro i x σ' H2 hx ⟨R', w6, w7, rfl, q1, q2, q3, q4, ⟨more, q5⟩, q6⟩
            obtain ⟨pa, hpa, rfl⟩ := ref_get hx
            obtain ⟨a, ha, dx, hax⟩ := hA.2 i pa hpa
            have hax2 := q1 _ _ hax
            have hil : i < t.acts.length := (List.getElem?_eq_some_iff.mp ha).1
            have ea : t.act i = a := by
              rw [act_get hil]
              exact (List.getElem?_eq_some_iff.mp ha).2
            refine ⟨_, rfl, pa, dx, _, rfl, hax2, aF_no a (by decide +kernel), _, rfl, pa, a, st, rfl, ⟨dx, hax2⟩, _, rfl, ?_⟩
            have keep : ∀ {b : Bool}, a.may st = b → b = false → ∀ j, j < i + 1 → t.can st j = true → (t.act j).then_ st ∈ R' := by
              intro b e1 e2 j hj hc
              by_cases e : j = i
              · subst e
                rw [can_iff, ea, e1, e2] at hc
                cases hc.2
              · exact q6 j (by omega) hc
            cases em : a.may st with
            | false => exact iteF ⟨R', _, w7, rfl, q1, q2, q3, q4, ⟨more, q5⟩, keep em rfl⟩
            | true =>
              refine iteT ?_
              refine ⟨_, rfl, pa, dx, _, rfl, hax2, aF_no a (by decide +kernel), _, rfl, pa, a, st, rfl, ⟨dx, hax2⟩, ?_⟩
              refine ⟨_, rfl, _, rfl, d, _, rfl, DGet.k (k := Sum.inl ((a.then_ st : Nat) : Int)) q3, _, rfl, ?_⟩
              rw [valT]
              cases ec : R'.contains (a.then_ st) with
              | true =>
                refine iteF ⟨R', _, _, rfl, q1, q2, q3, q4, ⟨more, q5⟩, fun j hj hc => ?_⟩
                by_cases e : j = i
                · subst e
                  rw [ea]
                  exact List.contains_iff_mem.mp ec
                · exact q6 j (by omega) hc
              | false =>
                have ni : a.then_ st ∉ R' := fun q => by
                  rw [List.contains_iff_mem.mpr q] at ec
                  cases ec
                have hl' := q4.length o h0
                refine iteT ?_
                refine ⟨_, rfl, _, rfl, d, _, rfl, DPut.k (k := Sum.inl ((a.then_ st : Nat) : Int)) q3 (small1000 (by unfold kvT; rw [List.length_map]; omega)), ?_⟩
                rw [putT ec]
                have nrd : r ≠ d := ndr.symm
                have q2' : upd H2 d (.dK (kvT (R' ++ [a.then_ st]))) r = some (.lst (lN R')) := by
                  rw [upd_ne nrd]
                  exact q2
                refine ⟨_, rfl, .inl ⟨rfl, _, SqL.of q2'⟩, _, rfl, r, _, _, rfl, rfl, q2', small1000 (by rw [List.length_map]; omega), ?_⟩
                refine ⟨R' ++ [a.then_ st], _, _, rfl, same_upd (same_upd q1 hd1) hr0, ?_, ?_, ?_, ⟨more ++ [a.then_ st], by rw [q5, List.append_assoc]⟩, ?_⟩
                · rw [upd_same]
                  unfold lN
                  rw [List.map_append]
                  rfl
                · rw [upd_ne ndr, upd_same]
                · have hcan : t.can st i = true := can_iff.mpr ⟨hil, by rw [ea]; exact em⟩
                  refine ⟨?_, ?_, List.mem_append_left _ q4.fst⟩
                  · rw [List.nodup_append]
                    exact ⟨q4.nd, by simp, fun x hx y hy => by rw [List.mem_singleton.mp hy]; exact fun e => ni (e ▸ hx)⟩
                  · intro s hs
                    rcases List.mem_append.mp hs with hs | hs
                    · exact q4.all s hs
                    · rw [List.mem_singleton.mp hs, ← ea]
                      exact (hS.all st (List.mem_of_getElem? hst)).step hcan
                · intro j hj hc
                  by_cases e : j = i
                  · subst e
                    rw [ea]
                    exact List.mem_append_right _ (List.mem_singleton.mpr rfl)
                  · exact List.mem_append_left _ (q6 j (by omega) hc)
          · rintro σ' H2 ⟨R', w6, w7, rfl, q1, q2, q3, q4, ⟨more, q5⟩, q6⟩
            rw [List.length_map, hA.1] at q6
            refine ⟨R', w6, w7, rfl, q1, q2, q3, q4, ?_, ?_⟩
            · rw [q5, List.length_append]
              omega
            · intro i s hi hs j hc
              have hiR : i < R.length := by omega
              rw [q5, List.getElem?_append_left hiR] at hs
              by_cases e : i = p
              · subst e
                rw [hst] at hs
                cases hs
                exact q6 j (can_iff.mp hc).1 hc
              · rw [q5]
                exact List.mem_append_left _ (hC i s (by omega) hs j hc)
      · have c : ¬ ((p : Int) < ((lN R).length : Int)) := fun z => c (decide_eq_true z)
        rw [List.length_map] at c
        have hpe : p = R.length := by omega
        refine ⟨_, rfl, k H' r R s1 hr0 hR hS.nd fun s => ⟨hS.all s, fun ⟨l, hl⟩ => ?_⟩⟩
        refine Rch.all (P := (· ∈ R)) (fun s j hs hc => ?_) hS.fst hl
        obtain ⟨i, hi, e⟩ := List.mem_iff_getElem.mp hs
        exact hC i s (by omega) (by rw [List.getElem?_eq_getElem hi, e]) j hc
end
end Wn

set_option Elab.async false
set_option maxRecDepth 100000
set_option maxHeartbeats 4000000
/-! Comprehensions, typed; lies_in_greater, greatest_sets. -/
namespace Wn
open PySem PySem.Spec PyProof.Rows L2
/-- what a comprehension over the list at a asks, its target in the slot j, its list to be at D -/
def LcAsks (K : PySem.W.Frag) (a : Addr) (j : Nat) (tt : TT) (te : TE) (σ : L2.St) (H1 : Hp) (D : Addr) (Qd : Hp → Prop) : Prop :=
  ∃ T : Nat → Nat → Hp → Prop, (∃ n, T 0 n (upd H1 D (.lst []))) ∧ ∀ u n G, T u n G →
    ((Itl K a).stop u G ∧ Qd G) ∨ ((Itl K a).go u G ∧ ∃ N : Hp → Prop, (∀ G', N G' → ∃ n', n' < n ∧ T (u + 1) n' G') ∧
      ∀ x G', (Itl K a).yld u G x G' → gName j x (wipe σ [j]) G' fun ρ G2 => wipe ρ [j] = wipe σ [j] ∧ tt ρ G2 fun c G3 =>
        if c = true then te ρ G3 fun y G4 => ∃ l, G4 D = some (.lst l) ∧ l.length < sizeLine ∧ N (upd G4 D (.lst (l ++ [y])))
        else N G3)
/-- [e for x in xs if t], xs a list told by ys: a filter and a map; what is called within leaves all as it was -/
theorem lc_fmT {K : PySem.W.Frag} {a : Addr} {α : Type} {ys : List α} {g : α → V} {j : Nat} {tt : TT} {te : TE} {σ : L2.St} {H1 : Hp} {D : Addr} {Qd : Hp → Prop} (p : α → Bool) (f : α → V)
    (hD : H1 D = Option.none) (hq : SqL K H1 a (ys.map g)) (hlen : ys.length ≤ 1000) (hw : ∀ x, wipe ((wipe σ [j]).set j (some x)) [j] = wipe σ [j])
    (ht : ∀ (y : α) (H' : Hp) (Qb : Bool → Hp → Prop), y ∈ ys → Same H1 H' → (∀ H4, Same H' H4 → Qb (p y) H4) → tt ((wipe σ [j]).set j (some (g y))) H' Qb)
    (he : ∀ (y : α) (H' : Hp) (Qv : VK), y ∈ ys → p y = true → Same H1 H' → (∀ H4, Same H' H4 → Qv (f y) H4) → te ((wipe σ [j]).set j (some (g y))) H' Qv)
    (hd : ∀ H', Same H1 H' → H' D = some (.lst ((ys.filter p).map f)) → Qd H') : LcAsks K a j tt te σ H1 D Qd := by
  refine lc_list (xs := ys.map g) (fun i H' => Same H1 H' ∧ H' D = some (.lst (((ys.take i).filter p).map f))) ⟨same_new hD, upd_same⟩ (fun i H' _ h => h.1.seq hq) ?_ (fun H' h => ?_)
  · rintro i x H' hx ⟨s1, hacc⟩
    rw [List.getElem?_map] at hx
    obtain ⟨y, hy, rfl⟩ : ∃ y, ys[i]? = some y ∧ g y = x := by
      cases e : ys[i]? with
      | none =>
        rw [e] at hx
        cases hx
      | some y =>
        rw [e] at hx
        exact ⟨y, rfl, Option.some.inj hx⟩
    have tk : ys.take (i + 1) = ys.take i ++ [y] := by
      rw [List.take_add_one, hy]
      rfl
    have my := List.mem_of_getElem? hy
    refine ⟨hw _, ht y H' _ my s1 fun H4 s4 => ?_⟩
    cases hp : p y with
    | false =>
      refine iteF ⟨s1.trans s4, ?_⟩
      rw [tk, List.filter_append, List.filter_cons, hp, List.map_append]
      simp only [Bool.false_eq_true, if_false, List.filter_nil, List.map_nil, List.append_nil]
      exact s4 _ _ hacc
    | true =>
      refine iteT (he y H4 _ my hp (s1.trans s4) fun H5 s5 => ?_)
      refine ⟨_, s5 _ _ (s4 _ _ hacc), ?_, same_upd ((s1.trans s4).trans s5) hD, ?_⟩
      · rw [List.length_map]
        refine small1000 (Nat.le_trans (Nat.le_trans (List.length_filter_le _ _) ?_) hlen)
        rw [List.length_take]
        exact Nat.min_le_right _ _
      · rw [upd_same, tk, List.filter_append, List.filter_cons, hp, List.map_append]
        rfl
  · rw [List.length_map, List.take_length] at h
    exact hd H' h.1 h.2
theorem lc_mT {K : PySem.W.Frag} {a : Addr} {α : Type} {ys : List α} {g : α → V} {j : Nat} {te : TE} {σ : L2.St} {H1 : Hp} {D : Addr} {Qd : Hp → Prop} (f : α → V)
    (hD : H1 D = Option.none) (hq : SqL K H1 a (ys.map g)) (hlen : ys.length ≤ 1000) (hw : ∀ x, wipe ((wipe σ [j]).set j (some x)) [j] = wipe σ [j])
    (he : ∀ (y : α) (H' : Hp) (Qv : VK), y ∈ ys → Same H1 H' → (∀ H4, Same H' H4 → Qv (f y) H4) → te ((wipe σ [j]).set j (some (g y))) H' Qv)
    (hd : ∀ H', Same H1 H' → H' D = some (.lst (ys.map f)) → Qd H') : LcAsks K a j tYes te σ H1 D Qd := by
  refine lc_fmT (fun _ => true) f hD hq hlen hw (fun y H' Qb _ _ k => k H' (Same.refl _)) (fun y H' Qv m _ s k => he y H' Qv m s k) (fun H' s h => ?_)
  rw [List.filter_eq_self.mpr (fun _ _ => rfl)] at h
  exact hd H' s h
abbrev sLies : Stmt := top 5
abbrev sGreatestSets : Stmt := top 6
def spLies (K : PySem.W.Frag) : Sp := fun vs H Q _ => ∃ (m : Nat) (a : Addr) (l : List Nat), vs = [vN m, .ref a] ∧ SqL K H a (lN l) ∧ l.length ≤ 1000 ∧
  ∀ H', Same H H' → Q (.bl (l.any fun k => k != m && Pn.within m k)) H'
def spGreatestSets (K : PySem.W.Frag) : Sp := fun vs H Q _ => ∃ (t : Tk) (s0 : Nat) (a : Addr) (R : List Nat), vs = [.ref a, vN t.goal] ∧ Ok t ∧ SqL K H a (lN R) ∧ R.length ≤ 32 ∧ s0 = t.start ∧ (∀ s, s ∈ R ↔ Rch t s0 s) ∧
  ∀ (H' : Hp) (p : Addr), Same H H' → H p = none → H' p = some (.lst (lN (Pn14.greatest t))) → Q (.ref p) H'
section
variable {P : Program} {w : World} {K : PySem.W.Frag} {mg : Str → Option Value} {base : Heap} {C : Addr}
theorem scLies : FnScope ["wishes", "others", "other"] ["wishes", "others"] (defScope sLies) := ⟨rfl, rfl, rfl, by decide +kernel, rfl, by decide +kernel, by decide +kernel⟩
theorem ok_lies {f fH : Addr} {fd fdH : FuncData} (F : Fun K "lies_in_greater" "lies_in_greater" sLies f fd) (any : mg "any" = none)
    (GH : FnOk P w K mg base CX0 1 fH fdH ["state", "facts"] spHasAll) (bH : Binds K fdH ["state", "facts"] []) (mH : mg "has_all" = some (.ref fH)) (kH : PySem.W.keepIn K (.ref fH) = true) : FnOk P w K mg base CX0 2 f fd ["wishes", "others"] (spLies K) := by
  refine F.ok scLies (fun vs H Q E h => ?_) (fun cdv A outer s H vs Q E hr h => ?_)
  · obtain ⟨m, a, l, rfl, _⟩ := h
    rfl
  · obtain ⟨m, a, l, rfl, hl, hlen, k⟩ := h
    refine ⟨_, pss_one (ps_ret (pe_callB (cr_any rfl) (by rfl) any (by decide +kernel) (pa_cons (pe_lc (own := [("other", 2)]) (g := gName 2) (tt := tYes) rfl scLies.nd (pi_list (pv 1)) (blkOk_by (N := ["wishes", "others", "other"]) (sc := defScope sLies) (by decide +kernel))
      (fun _ _ _ _ _ => pg_name (i := 2) scLies.nd rfl (Or.inl rfl)) (fun _ _ _ _ _ => pts_nil)
      (fun _ _ _ _ _ => pe_and (pe_cmpR op_ne (pv 2) (pv 0) (nomark _)) (pe_one (pe_call GH hr rfl mH kH bH .nil pass0 (pa_cons (pv 2) (pa_cons (pv 0) pa_nil)))))) pa_nil))), ?_⟩
    refine ⟨_, rfl, a, rfl, ⟨_, hl⟩, fun D hD => lc_mT (fun k => V.bl (k != m && Pn.within m k)) hD hl hlen (fun _ => rfl) ?_ ?_⟩
    · intro y H' Qv _ s1 q
      refine ⟨_, rfl, _, rfl, rfl, _, rfl, ?_⟩
      have e1 : (!decide (V.int (y : Int) = V.int (m : Int))) = (y != m) := by
        rw [Bool.eq_iff_iff, Bool.not_eq_true', decide_eq_false_iff_not, bne_iff_ne, V.int.injEq, Int.natCast_inj]
      show if (!decide (V.int (y : Int) = V.int (m : Int))) = true then _ else _
      rw [e1]
      have q := q H' (Same.refl _)
      cases c : (y != m) with
      | false =>
        rw [c] at q
        exact iteF q
      | true =>
        rw [c] at q
        exact iteT ⟨_, rfl, _, rfl, y, m, rfl, q⟩
    · intro H' s1 hD'
      refine ⟨D, l.map (fun k => k != m && Pn.within m k), rfl, SqL.of (by rw [hD', List.map_map]; rfl), ?_⟩
      have := k H' s1
      rw [List.any_map]
      exact this
theorem scGreatestSets : FnScope ["reached", "wanted", "had", "state", "wishes"] ["reached", "wanted"] (defScope sGreatestSets) := ⟨rfl, rfl, rfl, by decide +kernel, rfl, by decide +kernel, by decide +kernel⟩
theorem ok_greatestSets {f fL : Addr} {fd fdL : FuncData} (F : Fun K "greatest_sets" "greatest_sets" sGreatestSets f fd) (sorted : mg "sorted" = none) (set : mg "set" = none)
    (GL : FnOk P w K mg base CX0 2 fL fdL ["wishes", "others"] (spLies K)) (bL : Binds K fdL ["wishes", "others"] []) (mL : mg "lies_in_greater" = some (.ref fL)) (kL : PySem.W.keepIn K (.ref fL) = true) : FnOk P w K mg base CX0 3 f fd ["reached", "wanted"] (spGreatestSets K) := by
  refine F.ok scGreatestSets (fun vs H Q E h => ?_) (fun cdv A outer s H vs Q E hr h => ?_)
  · obtain ⟨t, s0, a, R, rfl, _⟩ := h
    rfl
  · obtain ⟨t, s0, a, R, rfl, o, hR, hlen, rfl, hm, k⟩ := h
    refine ⟨_, pss_cons (ps_set (i := 2) scGreatestSets.nd rfl (Or.inr rfl) (pe_callB (cr_sortedSet rfl) (by rfl) sorted (by decide +kernel) (pa_cons (pe_callTy (cr_setI rfl) (by rfl) set (by decide +kernel) (pa_cons
        (pe_lc (own := [("state", 3)]) (g := gName 3) (tt := tYes) rfl scGreatestSets.nd (pi_list (pv 0)) (blkOk_by (N := ["reached", "wanted", "had", "state", "wishes"]) (sc := defScope sGreatestSets) (by decide +kernel))
          (fun _ _ _ _ _ => pg_name (i := 3) scGreatestSets.nd rfl (Or.inl rfl)) (fun _ _ _ _ _ => pts_nil) (fun _ _ _ _ _ => pe_op op_and (pv 3) (pv 1))) pa_nil)) pa_nil)))
      (pss_one (ps_ret (pe_lc (own := [("wishes", 4)]) (g := gName 4) rfl scGreatestSets.nd (pi_list (pv 2)) (blkOk_by (N := ["reached", "wanted", "had", "state", "wishes"]) (sc := defScope sGreatestSets) (by decide +kernel))
          (fun _ _ _ _ _ => pg_name (i := 4) scGreatestSets.nd rfl (Or.inl rfl)) (fun _ _ _ _ _ => pts_one (pt_not (pt_val (pe_call GL hr rfl mL kL bL .nil pass0 (pa_cons (pv 4) (pa_cons (pv 2) pa_nil)))))) (fun _ _ _ _ _ => pv 4)))), ?_⟩
    refine ⟨_, rfl, a, rfl, ⟨_, hR⟩, fun D hD => lc_mT (fun s => vN (s &&& t.goal)) hD hR (by omega) (fun _ => rfl) ?_ ?_⟩
    · intro y H' Qv _ s1 q
      refine ⟨_, rfl, _, rfl, _, _, rfl, rfl, ?_⟩
      show Qv (V.int (Builtin.bitAnd (y : Int) (t.goal : Int))) H'
      rw [and_nat]
      exact q H' (Same.refl _)
    · intro H1 s1 hD1
      have hns : (R.map fun s => vN (s &&& t.goal)) = (R.map fun s => ((s &&& t.goal : Nat) : Int)).map V.int := by
        rw [List.map_map]
        rfl
      refine ⟨D, R.map (fun s => ((s &&& t.goal : Nat) : Int)), rfl, SqL.of (by rw [hD1, hns]), by rw [List.length_map]; omega, fun p c hc hp => ?_⟩
      refine ⟨p, _, c, rfl, upd_same, ?_, fun ns q hrise hmem _ hq => ?_⟩
      · rw [List.length_map] at hc
        omega
      have np : H p = Option.none := s1.free hp
      have nq : H q = Option.none := s1.free (upd_none hq).2
      have nqp : q ≠ p := (upd_none hq).1
      obtain ⟨Dn, rfl, hDr⟩ : ∃ Dn : List Nat, ns = Dn.map (fun (n : Nat) => (n : Int)) ∧ Dn.Pairwise (· < ·) := by
        refine ⟨ns.map Int.toNat, ?_, ?_⟩
        · rw [List.map_map]
          refine (List.map_id ns).symm.trans (List.map_congr_left fun x hx => ?_)
          have := of_decide_eq_true ((hmem x).mp hx)
          obtain ⟨s, _, rfl⟩ := List.mem_map.mp this
          rfl
        · rw [List.pairwise_map]
          refine hrise.imp_of_mem fun {x y} hx hy h => ?_
          obtain ⟨s, _, rfl⟩ := List.mem_map.mp (of_decide_eq_true ((hmem x).mp hx))
          obtain ⟨s', _, rfl⟩ := List.mem_map.mp (of_decide_eq_true ((hmem y).mp hy))
          simp only [Int.toNat_natCast]
          omega
      have hDm : ∀ m, m ∈ Dn ↔ ∃ s, Rch t t.start s ∧ m = s &&& t.goal := by
        intro m
        have h1 := hmem (m : Int)
        rw [decide_eq_true_eq, List.mem_map, List.mem_map] at h1
        constructor
        · intro h
          obtain ⟨s, hs, e⟩ := h1.mp ⟨m, h, rfl⟩
          exact ⟨s, (hm s).mp hs, by omega⟩
        · rintro ⟨s, hs, rfl⟩
          obtain ⟨m', h, e⟩ := h1.mpr ⟨s, (hm s).mpr hs, rfl⟩
          have : m' = s &&& t.goal := by omega
          rw [← this]
          exact h
      have hDl : Dn.length ≤ 32 := by
        have hnd : Dn.Nodup := hDr.imp fun h => Nat.ne_of_lt h
        have := nodup_length (S := List.range (2 ^ t.facts)) hnd fun x hx => by
          obtain ⟨s, hs, rfl⟩ := (hDm x).mp hx
          exact List.mem_range.mpr (Nat.lt_of_le_of_lt Nat.and_le_right o.goal)
        rw [List.length_range] at this
        have := two32 o.n
        omega
      have hmm : (Dn.map (fun (n : Nat) => (n : Int))).map V.int = lN Dn := by
        rw [List.map_map]
        rfl
      rw [hmm]
      refine ⟨_, rfl, q, rfl, ⟨_, SqL.of upd_same⟩, fun G hG => lc_fmT (ys := Dn) (g := fun (n : Nat) => vN n) (fun m => !Dn.any fun k => k != m && Pn.within m k) (fun m => vN m) hG (SqL.of upd_same) (by omega) (fun _ => rfl) ?_ ?_ ?_⟩
      · intro y H' Qb _ s3 z
        refine ⟨_, rfl, _, rfl, y, q, Dn, rfl, SqL.of (s3 _ _ upd_same), by omega, fun H4 s4 => ⟨_, rfl, z H4 s4⟩⟩
      · intro y H' Qv _ _ s3 z
        exact ⟨_, rfl, z H' (Same.refl _)⟩
      · intro H3 s3 hG3
        rw [greatest_is o hDr hDm] at hG3
        have s2 := same_upd (o := .lst (lN Dn)) (same_upd (o := SetO w p (fun j => decide (j ∈ R.map fun s => ((s &&& t.goal : Nat) : Int))) c) s1 np) nq
        exact k H3 G (s2.trans s3) (s2.free hG) hG3
end
end Wn

set_option Elab.async false
set_option maxRecDepth 100000
set_option maxHeartbeats 4000000
/-! Comprehensions over anything that is walked; facts_in, can_be_had, is_least, least_sets. -/
namespace Wn
open PySem PySem.Spec PyProof.Rows L2
/-- item by item -/
def Rows {α : Type} (R : α → V → Hp → Prop) (l : List α) (vs : List V) (H : Hp) : Prop := vs.length = l.length ∧ ∀ (k : Nat) (i : α) (v : V), l[k]? = some i → vs[k]? = some v → R i v H
theorem Rows.nil {α : Type} {R : α → V → Hp → Prop} {H : Hp} : Rows R [] [] H := ⟨rfl, fun k i v h => by simp at h⟩
theorem Rows.snoc {α : Type} {R : α → V → Hp → Prop} {l : List α} {vs : List V} {H : Hp} {i : α} {v : V} (h : Rows R l vs H) (r : R i v H) : Rows R (l ++ [i]) (vs ++ [v]) H := by
  refine ⟨by rw [List.length_append, List.length_append, h.1]; rfl, fun k j u h1 h2 => ?_⟩
  by_cases c : k < l.length
  · rw [List.getElem?_append_left c] at h1
    rw [List.getElem?_append_left (by rw [h.1]; exact c)] at h2
    exact h.2 k j u h1 h2
  · have hk : k < (l ++ [i]).length := (List.getElem?_eq_some_iff.mp h1).1
    rw [List.length_append, List.length_singleton] at hk
    have e : k = l.length := by omega
    subst e
    rw [List.getElem?_append_right (Nat.le_refl _), Nat.sub_self] at h1
    rw [List.getElem?_append_right (by rw [h.1]; exact Nat.le_refl _), h.1, Nat.sub_self] at h2
    rw [← Option.some.inj h1, ← Option.some.inj h2]
    exact r
theorem Rows.mem {α : Type} {R : α → V → Hp → Prop} {l : List α} {vs : List V} {H : Hp} (h : Rows R l vs H) {k : Nat} {v : V} (e : vs[k]? = some v) : ∃ i, l[k]? = some i ∧ R i v H := by
  have hk : k < vs.length := (List.getElem?_eq_some_iff.mp e).1
  rw [h.1] at hk
  exact ⟨_, List.getElem?_eq_getElem hk, h.2 k _ v (List.getElem?_eq_getElem hk) e⟩
theorem Rows.eq {α : Type} {f : α → V} : ∀ {l : List α} {vs : List V} {H : Hp}, Rows (fun i v _ => v = f i) l vs H → vs = l.map f := by
  intro l vs H h
  refine List.ext_getElem? fun k => ?_
  rw [List.getElem?_map]
  cases e : vs[k]? with
  | none =>
    have : l.length ≤ k := by
      rw [← h.1]
      exact List.getElem?_eq_none_iff.mp e
    rw [List.getElem?_eq_none_iff.mpr this]
    rfl
  | some v =>
    obtain ⟨i, e1, e2⟩ := h.mem e
    rw [e1, e2]
    rfl
/-- all that is new in G beside H stands in H5 -/
def News (H G H5 : Hp) : Prop := ∀ b o, H b = Option.none → G b = some o → H5 b = some o
/-- one turn of a comprehension: its target, its tests, its item -/
def Turn1 (g : TG) (tt : TT) (te : TE) (ws : List Nat) (σ : L2.St) (x : V) (H' : Hp) (Yes : VK) (No : Hp → Prop) : Prop :=
  g x (wipe σ ws) H' fun σ2 H2 => wipe σ2 ws = wipe σ ws ∧ tt σ2 H2 fun b H3 => if b = true then te σ2 H3 Yes else No H3
/-- what a comprehension over J asks: a measure that falls, turn by turn -/
abbrev LcGo (J : It) (g : TG) (tt : TT) (te : TE) (ws : List Nat) (σ : L2.St) (H1 : Hp) (D : Addr) (Qd : Hp → Prop) : Prop :=
  ∃ T : Nat → Nat → Hp → Prop, (∃ n, T 0 n (upd H1 D (.lst []))) ∧ ∀ u n G, T u n G → (J.stop u G ∧ Qd G) ∨ (J.go u G ∧ ∃ N : Hp → Prop, (∀ G', N G' → ∃ n', n' < n ∧ T (u + 1) n' G') ∧
    ∀ x G', J.yld u G x G' → g x (wipe σ ws) G' fun ρ G2 => wipe ρ ws = wipe σ ws ∧ tt ρ G2 fun c G3 => if c = true then te ρ G3 fun y G4 => ∃ l, G4 D = some (.lst l) ∧ l.length < sizeLine ∧ N (upd G4 D (.lst (l ++ [y]))) else N G3)
theorem lc_w {J : It} {n : Nat} {G : Hp → Prop} {Y : Nat → Hp → V → Hp → Prop} (wk : Walk J n G Y) {g : TG} {tt : TT} {te : TE} {ws : List Nat} {σ : L2.St} {H1 : Hp} {D : Addr} {Qd : Hp → Prop} (p : Nat → Bool) (R : Nat → V → Hp → Prop)
    (hD : H1 D = Option.none) (hG : ∀ H, Same H1 H → G H) (hn : n ≤ 1000)
    (hs : ∀ (i : Nat) (x : V) (H H' : Hp) (Yes : VK) (No : Hp → Prop), i < n → Same H1 H → Y i H x H' → (p i = false → ∀ H4, Same H H4 → No H4) → (p i = true → ∀ v H4, Same H H4 → (∀ H5, News H H4 H5 → R i v H5) → Yes v H4) → Turn1 g tt te ws σ x H' Yes No)
    (hd : ∀ (H : Hp) (vs : List V), Same H1 H → H D = some (.lst vs) → (∀ H5, (∀ b o, b ≠ D → H b = some o → H5 b = some o) → Rows R ((List.range n).filter p) vs H5) → Qd H) :
    LcGo J g tt te ws σ H1 D Qd := by
  refine lc_it wk (fun i H => Same H1 H ∧ ∃ vs, H D = some (.lst vs) ∧ (∀ H5, (∀ b o, b ≠ D → H b = some o → H5 b = some o) → Rows R ((List.range i).filter p) vs H5)) ⟨same_new hD, [], upd_same, fun H5 _ => Rows.nil⟩ (fun i H _ h => hG H h.1) ?_ (fun H h => ?_)
  · rintro i x H H' hi ⟨s1, vs, hv, hr⟩ hy
    have rg : (List.range (i + 1)).filter p = (List.range i).filter p ++ if p i = true then [i] else [] := by
      rw [List.range_succ, List.filter_append, List.filter_cons, List.filter_nil]
    refine hs i x H H' _ _ hi s1 hy (fun hp H4 s4 => ⟨s1.trans s4, vs, s4 _ _ hv, fun H5 k5 => ?_⟩) (fun hp v H4 s4 hR => ?_)
    · rw [rg, hp, if_neg Bool.false_ne_true, List.append_nil]
      exact hr H5 fun b o nb e => k5 b o nb (s4 _ _ e)
    · refine ⟨vs, s4 _ _ hv, ?_, same_upd (s1.trans s4) hD, vs ++ [v], upd_same, fun H5 k5 => ?_⟩
      · rw [(hr H fun b o _ e => e).1]
        refine small1000 (Nat.le_trans (List.length_filter_le _ _) ?_)
        rw [List.length_range]
        omega
      · rw [rg, hp, if_pos rfl]
        have k6 : ∀ b o, b ≠ D → H4 b = some o → H5 b = some o := fun b o nb e => k5 b o nb (by rw [upd_ne nb]; exact e)
        refine (hr H5 fun b o nb e => k6 b o nb (s4 _ _ e)).snoc (hR H5 fun b o e e4 => k6 b o (fun z => ?_) e4)
        rw [z, hv] at e
        cases e
  · obtain ⟨s1, vs, hv, hr⟩ := h
    exact hd H vs s1 hv hr
/-- the same where an item's value is known -/
theorem lc_wv {J : It} {n : Nat} {G : Hp → Prop} {Y : Nat → Hp → V → Hp → Prop} (wk : Walk J n G Y) {g : TG} {tt : TT} {te : TE} {ws : List Nat} {σ : L2.St} {H1 : Hp} {D : Addr} {Qd : Hp → Prop} (p : Nat → Bool) (f : Nat → V)
    (hD : H1 D = Option.none) (hG : ∀ H, Same H1 H → G H) (hn : n ≤ 1000)
    (hs : ∀ (i : Nat) (x : V) (H H' : Hp) (Yes : VK) (No : Hp → Prop), i < n → Same H1 H → Y i H x H' → (p i = false → ∀ H4, Same H H4 → No H4) → (p i = true → ∀ H4, Same H H4 → Yes (f i) H4) → Turn1 g tt te ws σ x H' Yes No)
    (hd : ∀ (H : Hp), Same H1 H → H D = some (.lst (((List.range n).filter p).map f)) → Qd H) :
    LcGo J g tt te ws σ H1 D Qd := by
  refine lc_w wk p (fun i v _ => v = f i) hD hG hn (fun i x H H' Yes No hi s1 hy no yes => hs i x H H' Yes No hi s1 hy no fun hp H4 s4 => yes hp _ H4 s4 fun _ _ => rfl) (fun H vs s1 hv hr => hd H s1 ?_)
  rw [hv, (hr H fun b o _ e => e).eq]
/-! ### facts_in -/
abbrev sFactsIn : Stmt := top 2
abbrev sCanBe : Stmt := top 7
abbrev sIsLeast : Stmt := top 8
abbrev sLeastSets : Stmt := top 9
theorem bits_lt (x : Nat) : x < 2 ^ Builtin.Int.intBits (x : Int) := by
  unfold Builtin.Int.intBits
  by_cases c : x = 0
  · subst c
    decide
  · have e : ((x : Int) == 0) = false := by
      rw [beq_eq_false_iff_ne]
      omega
    rw [e]
    exact Nat.lt_log2_self
theorem bits_le {x n : Nat} (h : x < 2 ^ n) : Builtin.Int.intBits (x : Int) ≤ n := by
  unfold Builtin.Int.intBits
  by_cases c : x = 0
  · subst c
    exact Nat.zero_le _
  · have e : ((x : Int) == 0) = false := by
      rw [beq_eq_false_iff_ne]
      omega
    rw [e]
    show (x : Int).natAbs.log2 + 1 ≤ n
    rw [Int.natAbs_natCast]
    exact Nat.succ_le_of_lt ((Nat.log2_lt c).mpr h)
theorem factsOf_bits {x n m : Nat} (hm : m ≤ n) (h : x < 2 ^ m) : factsOf m x = factsOf n x := by
  refine rise_ext (rise_factsOf _ _) (rise_factsOf _ _) fun k => ?_
  rw [mem_factsOf, mem_factsOf]
  constructor
  · exact fun q => ⟨Nat.lt_of_lt_of_le q.1 hm, q.2⟩
  · intro q
    refine ⟨?_, q.2⟩
    rcases Nat.lt_or_ge k m with c | c
    · exact c
    · have := Nat.testBit_lt_two_pow (Nat.lt_of_lt_of_le h (Nat.pow_le_pow_right (by decide) c))
      rw [this] at q
      cases q.2
theorem bit_test1 (x k : Nat) : decide (V.int (Builtin.bitAnd ((x : Int) / 2 ^ ((k : Int)).toNat) 1) = V.int 1) = x.testBit k := by
  have e : (x : Int) / 2 ^ ((k : Int)).toNat = ((x / 2 ^ k : Nat) : Int) := by
    rw [Int.toNat_natCast, Int.natCast_ediv]
    simp
  rw [e, show (1 : Int) = ((1 : Nat) : Int) from rfl, and_nat, Bool.eq_iff_iff, decide_eq_true_eq, V.int.injEq, Int.natCast_inj, Nat.and_one_is_mod, ← bit_test]
  unfold Pn.bit
  rw [beq_iff_eq]
def spFacts : Sp := fun vs H Q _ => ∃ (x n : Nat), vs = [vN x] ∧ x < 2 ^ n ∧ n ≤ 5 ∧ ∀ (H' : Hp) (p : Addr), Same H H' → H p = none → H' p = some (.lst (lN (factsOf n x))) → Q (.ref p) H'
section
variable {P : Program} {w : World} {K : PySem.W.Frag} {mg : Str → Option Value} {base : Heap} {C : Addr}
theorem scFactsIn : FnScope ["facts", "fact"] ["facts"] (defScope sFactsIn) := ⟨rfl, rfl, rfl, by decide +kernel, rfl, by decide +kernel, by decide +kernel⟩
theorem ok_factsIn {f : Addr} {fd : FuncData} (F : Fun K "facts_in" "facts_in" sFactsIn f fd) (range : mg "range" = none) : FnOk P w K mg base CX0 1 f fd ["facts"] spFacts := by
  refine F.ok scFactsIn (fun vs H Q E h => ?_) (fun cdv A outer s H vs Q E hr h => ?_)
  · obtain ⟨x, n, rfl, _⟩ := h
    rfl
  · obtain ⟨x, n, rfl, hx, hn, k⟩ := h
    refine ⟨_, pss_one (ps_ret (pe_lc (own := [("fact", 1)]) (g := gName 1) rfl scFactsIn.nd (pi_range1 rfl range (pa_cons (pe_bits (pv 0)) pa_nil)) (blkOk_by (N := ["facts", "fact"]) (sc := defScope sFactsIn) (by decide +kernel))
      (fun _ _ _ _ _ => pg_name (i := 1) scFactsIn.nd rfl (Or.inl rfl)) (fun _ _ _ _ _ => pts_one (pt_cmpR op_eq (pe_op op_and (pe_op op_shr (pv 0) (pv 1)) pe_int) pe_int (nomark _))) (fun _ _ _ _ _ => pv 1))), ?_⟩
    have hb := bits_le hx
    refine ⟨_, rfl, _, rfl, _, rfl, by omega, by omega, fun D hD => lc_wv walk_range (fun i => x.testBit i) (fun i => vN i) hD (fun _ _ => trivial) (by rw [Int.toNat_natCast]; omega) ?_ ?_⟩
    · rintro i v H' H2 Yes No hi s1 ⟨e1, rfl⟩ no yes
      rw [e1]
      refine ⟨rfl, _, rfl, _, rfl, _, _, rfl, rfl, ?_, _, _, rfl, rfl, rfl, _, rfl, ?_⟩
      · show (0 : Int) ≤ 0 + (i : Int)
        omega
      show if decide (V.int (Builtin.bitAnd ((x : Int) / 2 ^ ((0 + (i : Int))).toNat) 1) = V.int 1) = true then _ else _
      rw [Int.zero_add, bit_test1]
      cases c : x.testBit i with
      | false => exact iteF (no c H' (Same.refl _))
      | true =>
        refine iteT ⟨_, rfl, ?_⟩
        have := yes c H' (Same.refl _)
        show Yes (V.int (0 + (i : Int))) H'
        rw [Int.zero_add]
        exact this
    · intro H' s1 hv
      refine k H' D s1 hD ?_
      rw [hv, Int.toNat_natCast, ← factsOf_bits hb (bits_lt x)]
      rfl
/-! ### can_be_had, is_least, least_sets -/
def spCanBe (K : PySem.W.Frag) : Sp := fun vs H Q _ => ∃ (m : Nat) (a : Addr) (R : List Nat), vs = [vN m, .ref a] ∧ SqL K H a (lN R) ∧ R.length ≤ 1000 ∧ ∀ H', Same H H' → Q (.bl (R.any fun s => Pn.within m s)) H'
theorem scCanBe : FnScope ["wishes", "reached", "state"] ["wishes", "reached"] (defScope sCanBe) := ⟨rfl, rfl, rfl, by decide +kernel, rfl, by decide +kernel, by decide +kernel⟩
theorem ok_canBe {f fH : Addr} {fd fdH : FuncData} (F : Fun K "can_be_had" "can_be_had" sCanBe f fd) (any : mg "any" = none)
    (GH : FnOk P w K mg base CX0 1 fH fdH ["state", "facts"] spHasAll) (bH : Binds K fdH ["state", "facts"] []) (mH : mg "has_all" = some (.ref fH)) (kH : PySem.W.keepIn K (.ref fH) = true) : FnOk P w K mg base CX0 2 f fd ["wishes", "reached"] (spCanBe K) := by
  refine F.ok scCanBe (fun vs H Q E h => ?_) (fun cdv A outer s H vs Q E hr h => ?_)
  · obtain ⟨m, a, R, rfl, _⟩ := h
    rfl
  · obtain ⟨m, a, R, rfl, ha, hlen, k⟩ := h
    refine ⟨_, pss_one (ps_ret (pe_callB (cr_any rfl) (by rfl) any (by decide +kernel) (pa_cons (pe_lc (own := [("state", 2)]) (g := gName 2) (tt := tYes) rfl scCanBe.nd (pi_list (pv 1)) (blkOk_by (N := ["wishes", "reached", "state"]) (sc := defScope sCanBe) (by decide +kernel))
      (fun _ _ _ _ _ => pg_name (i := 2) scCanBe.nd rfl (Or.inl rfl)) (fun _ _ _ _ _ => pts_nil)
      (fun _ _ _ _ _ => pe_call GH hr rfl mH kH bH .nil pass0 (pa_cons (pv 2) (pa_cons (pv 0) pa_nil)))) pa_nil))), ?_⟩
    refine ⟨_, rfl, a, rfl, ⟨_, ha⟩, fun D hD => lc_mT (fun s => V.bl (Pn.within m s)) hD ha hlen (fun _ => rfl) ?_ ?_⟩
    · intro y H' Qv _ s1 q
      exact ⟨_, rfl, _, rfl, y, m, rfl, q H' (Same.refl _)⟩
    · intro H' s1 hD'
      refine ⟨D, R.map (fun s => Pn.within m s), rfl, SqL.of (by rw [hD', List.map_map]; rfl), ?_⟩
      have := k H' s1
      rw [List.any_map]
      exact this
/-- whether a set of wishes is least, by what is reached -/
def leastB (n : Nat) (R : List Nat) (m : Nat) : Bool := !(R.any fun s => Pn.within m s) && (factsOf n m).all fun i => R.any fun s => Pn.within (less1 m i) s
def spIsLeast (K : PySem.W.Frag) : Sp := fun vs H Q _ => ∃ (m n : Nat) (a : Addr) (R : List Nat), vs = [vN m, .ref a] ∧ m < 2 ^ n ∧ n ≤ 5 ∧ SqL K H a (lN R) ∧ R.length ≤ 1000 ∧ ∀ H', Same H H' → Q (.bl (leastB n R m)) H'
theorem shl1 (i : Nat) : (1 : Int) * 2 ^ ((i : Int)).toNat = ((2 ^ i : Nat) : Int) := by
  rw [Int.toNat_natCast, Int.one_mul]
  simp
theorem factsOf_len (n x : Nat) : (factsOf n x).length ≤ n := by
  have := List.length_filter_le (fun k => x.testBit k) (List.range n)
  rw [List.length_range] at this
  exact this
theorem scIsLeast : FnScope ["wishes", "reached", "wish"] ["wishes", "reached"] (defScope sIsLeast) := ⟨rfl, rfl, rfl, by decide +kernel, rfl, by decide +kernel, by decide +kernel⟩
theorem ok_isLeast {f fC fF : Addr} {fd fdC fdF : FuncData} (F : Fun K "is_least" "is_least" sIsLeast f fd) (all : mg "all" = none)
    (GC : FnOk P w K mg base CX0 2 fC fdC ["wishes", "reached"] (spCanBe K)) (bC : Binds K fdC ["wishes", "reached"] []) (mC : mg "can_be_had" = some (.ref fC)) (kC : PySem.W.keepIn K (.ref fC) = true)
    (GF : FnOk P w K mg base CX0 1 fF fdF ["facts"] spFacts) (bF : Binds K fdF ["facts"] []) (mF : mg "facts_in" = some (.ref fF)) (kF : PySem.W.keepIn K (.ref fF) = true) : FnOk P w K mg base CX0 3 f fd ["wishes", "reached"] (spIsLeast K) := by
  refine F.ok scIsLeast (fun vs H Q E h => ?_) (fun cdv A outer s H vs Q E hr h => ?_)
  · obtain ⟨m, n, a, R, rfl, _⟩ := h
    rfl
  · obtain ⟨m, n, a, R, rfl, hm, hn, ha, hlen, k⟩ := h
    refine ⟨_, pss_cons (ps_if (pt_val (pe_call GC hr rfl mC kC bC .nil pass0 (pa_cons (pv 0) (pa_cons (pv 1) pa_nil)))) (pss_one (ps_ret pe_bl)) pss_nil)
      (pss_one (ps_ret (pe_callB (cr_all rfl) (by rfl) all (by decide +kernel) (pa_cons (pe_lc (own := [("wish", 2)]) (g := gName 2) (tt := tYes) rfl scIsLeast.nd (pi_list (pe_call GF (hr.mono (by decide)) rfl mF kF bF .nil pass0 (pa_cons (pv 0) pa_nil))) (blkOk_by (N := ["wishes", "reached", "wish"]) (sc := defScope sIsLeast) (by decide +kernel))
      (fun _ _ _ _ _ => pg_name (i := 2) scIsLeast.nd rfl (Or.inl rfl)) (fun _ _ _ _ _ => pts_nil)
      (fun _ _ _ _ _ => pe_call GC hr rfl mC kC bC .nil pass0 (pa_cons (pe_op op_and (pv 0) (pe_un un_inv (pe_op op_shl pe_int (pv 2)))) (pa_cons (pv 1) pa_nil)))) pa_nil)))), ?_⟩
    refine ⟨_, rfl, _, rfl, m, a, R, rfl, ha, hlen, fun H1 s1 => ⟨_, rfl, ?_⟩⟩
    unfold leastB at k
    cases c : (R.any fun s => Pn.within m s) with
    | true =>
      rw [c] at k
      exact iteT (k H1 s1)
    | false =>
      rw [c] at k
      refine iteF ⟨_, rfl, m, n, rfl, hm, hn, fun H2 p s2 np hp => ?_⟩
      refine ⟨p, rfl, ⟨_, SqL.of hp⟩, fun D hD => lc_mT (ys := factsOf n m) (fun i => V.bl (R.any fun s => Pn.within (less1 m i) s)) hD (SqL.of hp) (Nat.le_trans (factsOf_len _ _) (by omega)) (fun _ => rfl) ?_ ?_⟩
      · intro y H' Qv hy s3 q
        have y5 : y < 5 := Nat.lt_of_lt_of_le (mem_factsOf.mp hy).1 hn
        refine ⟨_, rfl, _, rfl, _, _, rfl, rfl, ⟨by omega, by omega, by decide⟩, _, rfl, _, _, rfl, rfl, _, rfl, less1 m y, a, R, ?_, ((s1.trans s2).trans s3).seq ha, hlen, fun H4 s4 => q H4 s4⟩
        show [V.int (Builtin.bitAnd (m : Int) (Builtin.bitNot (1 * 2 ^ ((y : Int)).toNat))), V.ref a] = [vN (less1 m y), V.ref a]
        rw [shl1, andNot_nat]
        rfl
      · intro H3 s3 hD'
        refine ⟨D, (factsOf n m).map (fun i => R.any fun s => Pn.within (less1 m i) s), rfl, SqL.of (by rw [hD', List.map_map]; rfl), ?_⟩
        have := k H3 ((s1.trans s2).trans s3)
        rw [List.all_map]
        exact this
def spLeastSets (K : PySem.W.Frag) : Sp := fun vs H Q _ => ∃ (t : Tk) (a : Addr) (R : List Nat), vs = [.ref a, vN t.goal] ∧ Ok t ∧ SqL K H a (lN R) ∧ R.length ≤ 32 ∧ (∀ s, s ∈ R ↔ Rch t t.start s) ∧
  ∀ (H' : Hp) (p : Addr), Same H H' → H p = none → H' p = some (.lst (lN (Pn14.least t))) → Q (.ref p) H'
theorem any_had {t : Tk} {R : List Nat} (hR : ∀ s, s ∈ R ↔ Rch t t.start s) {m : Nat} (hm : Pn.within m t.goal = true) : (R.any fun s => Pn.within m s) = true ↔ Had t m := by
  rw [List.any_eq_true]
  constructor
  · rintro ⟨s, hs, h⟩
    exact ⟨hm, s, (hR s).mp hs, h⟩
  · rintro ⟨_, s, hs, h⟩
    exact ⟨s, (hR s).mpr hs, h⟩
theorem least_is {t : Tk} (o : Ok t) {R : List Nat} (hR : ∀ s, s ∈ R ↔ Rch t t.start s) : ((List.range (t.goal + 1)).filter fun m => Pn.within m t.goal && leastB t.facts R m) = Pn14.least t := by
  refine rise_ext ((range_rise _).filter _) (rise_least t) fun m => ?_
  rw [List.mem_filter, List.mem_range, mem_least1 o, Bool.and_eq_true]
  unfold leastB
  rw [Bool.and_eq_true, Bool.not_eq_true']
  have key : Pn.within m t.goal = true → (((R.any fun s => Pn.within m s) = false ∧ ((factsOf t.facts m).all fun i => R.any fun s => Pn.within (less1 m i) s) = true) ↔ (¬ Had t m ∧ ∀ i, m.testBit i = true → Had t (less1 m i))) := by
    intro hw
    have lt : m < 2 ^ t.facts := Nat.lt_of_le_of_lt (within_le hw) o.goal
    refine and_congr ?_ ?_
    · rw [← any_had hR hw, Bool.not_eq_true]
    · rw [List.all_eq_true]
      constructor
      · intro h i hi
        refine (any_had hR (within_trans (less1_within m i) hw)).mp (h i (mem_factsOf.mpr ⟨?_, hi⟩))
        rcases Nat.lt_or_ge i t.facts with c | c
        · exact c
        · rw [Nat.testBit_lt_two_pow (Nat.lt_of_lt_of_le lt (Nat.pow_le_pow_right (by decide) c))] at hi
          cases hi
      · intro h i hi
        exact (any_had hR (within_trans (less1_within m i) hw)).mpr (h i (mem_factsOf.mp hi).2)
  constructor
  · rintro ⟨_, hw, h⟩
    exact ⟨⟨hw, ((key hw).mp h).1⟩, ((key hw).mp h).2⟩
  · rintro ⟨⟨hw, h1⟩, h2⟩
    exact ⟨Nat.lt_succ_of_le (within_le hw), hw, (key hw).mpr ⟨h1, h2⟩⟩
theorem scLeastSets : FnScope ["reached", "wanted", "wishes"] ["reached", "wanted"] (defScope sLeastSets) := ⟨rfl, rfl, rfl, by decide +kernel, rfl, by decide +kernel, by decide +kernel⟩
theorem ok_leastSets {f fH fL : Addr} {fd fdH fdL : FuncData} (F : Fun K "least_sets" "least_sets" sLeastSets f fd) (range : mg "range" = none)
    (GH : FnOk P w K mg base CX0 1 fH fdH ["state", "facts"] spHasAll) (bH : Binds K fdH ["state", "facts"] []) (mH : mg "has_all" = some (.ref fH)) (kH : PySem.W.keepIn K (.ref fH) = true)
    (GL : FnOk P w K mg base CX0 3 fL fdL ["wishes", "reached"] (spIsLeast K)) (bL : Binds K fdL ["wishes", "reached"] []) (mL : mg "is_least" = some (.ref fL)) (kL : PySem.W.keepIn K (.ref fL) = true) : FnOk P w K mg base CX0 4 f fd ["reached", "wanted"] (spLeastSets K) := by
  refine F.ok scLeastSets (fun vs H Q E h => ?_) (fun cdv A outer s H vs Q E hr h => ?_)
  · obtain ⟨t, a, R, rfl, _⟩ := h
    rfl
  · obtain ⟨t, a, R, rfl, o, ha, hlen, hR, k⟩ := h
    refine ⟨_, pss_one (ps_ret (pe_lc (own := [("wishes", 2)]) (g := gName 2) rfl scLeastSets.nd (pi_range1 rfl range (pa_cons (pe_op op_add (pv 1) pe_int) pa_nil)) (blkOk_by (N := ["reached", "wanted", "wishes"]) (sc := defScope sLeastSets) (by decide +kernel))
      (fun _ _ _ _ _ => pg_name (i := 2) scLeastSets.nd rfl (Or.inl rfl)) (fun _ _ _ _ _ => pts_one (PW.pt (pw_and (pt_val (pe_call GH (hr.mono (by decide)) rfl mH kH bH .nil pass0 (pa_cons (pv 1) (pa_cons (pv 2) pa_nil)))) (pw_and1 (pt_val (pe_call GL hr rfl mL kL bL .nil pass0 (pa_cons (pv 2) (pa_cons (pv 0) pa_nil)))))))) (fun _ _ _ _ _ => pv 2))), ?_⟩
    have hg := o.goal
    have p2 := two32 o.n
    have et : ((t.goal : Int) + 1).toNat = t.goal + 1 := by omega
    refine ⟨_, rfl, _, _, rfl, rfl, _, rfl, by omega, by omega, fun D hD => lc_wv walk_range (fun i => Pn.within i t.goal && leastB t.facts R i) (fun i => vN i) hD (fun _ _ => trivial) (by omega) ?_ ?_⟩
    · rintro i v H' H2 Yes No hi s1 ⟨e1, rfl⟩ no yes
      rw [e1]
      have hit : i < 2 ^ t.facts := by omega
      refine ⟨rfl, _, rfl, _, rfl, t.goal, i, ?_, _, rfl, ?_⟩
      · show [vN t.goal, V.int (0 + (i : Int))] = _
        rw [Int.zero_add]
      cases c : Pn.within i t.goal with
      | false => exact iteF (iteF (no (by rw [c]; rfl) H' (Same.refl _)))
      | true =>
        refine iteT ⟨_, rfl, _, rfl, i, t.facts, a, R, ?_, hit, o.n, s1.seq ha, by omega, fun H3 s3 => ⟨_, rfl, ?_⟩⟩
        · show [V.int (0 + (i : Int)), V.ref a] = _
          rw [Int.zero_add]
        cases c2 : leastB t.facts R i with
        | false => exact iteF (no (by rw [c, c2]; rfl) H3 s3)
        | true =>
          refine iteT ⟨_, rfl, ?_⟩
          have := yes (by rw [c, c2]; rfl) H3 s3
          show Yes (V.int (0 + (i : Int))) H3
          rw [Int.zero_add]
          exact this
    · intro H' s1 hv
      refine k H' D s1 hD ?_
      rw [hv, et, least_is o hR]
end
end Wn

set_option Elab.async false
set_option maxRecDepth 100000
set_option maxHeartbeats 4000000
/-! are_fact_sets, is_cost, the house. -/
namespace Wn
open PySem PySem.Spec PyProof.Rows L2
abbrev sAre : Stmt := top 44
abbrev sIsCost : Stmt := top 45
abbrev sHouse : Stmt := top 42
abbrev sHInit : Stmt := inClass sHouse 0
abbrev sBegins : Stmt := inClass sHouse 1
abbrev sActM : Stmt := inClass sHouse 2
abbrev sFrom : Stmt := inClass sHouse 3
abbrev sPrices : Stmt := inClass sHouse 4
abbrev sGreatest : Stmt := inClass sHouse 5
abbrev sLeast : Stmt := inClass sHouse 6
abbrev sOtherwise : Stmt := inClass sHouse 7
abbrev sInway : Stmt := inClass sHouse 8
abbrev sWhy : Stmt := inClass sHouse 9
abbrev sPlan : Stmt := inClass sHouse 10
abbrev sPlanCosts : Stmt := inClass sHouse 11
/-- a whole number of the file's top -/
def Cn (mg : Str → Option Value) (x : Str) (z : Int) : Prop := ∃ t, mg x = some (.int z t)
theorem pe_cn {X : Cx} {x : Str} {z : Int} {pos : Pos} (h : Cn X.mg x z) (hg : Gl X x := by rfl) (hd : (x == ("__debug__" : Str)) = false := by decide) : PE X (.Name x pos) (tC (.int z)) := by
  obtain ⟨t, h⟩ := h
  exact pe_glob (v := .int z) hg h ⟨t, rfl⟩ hd
def spAre (K : PySem.W.Frag) : Sp := fun vs H Q _ => ∃ (a : Addr) (l : List Nat) (n : Nat), vs = [.ref a, vN n] ∧ SqL K H a (lN l) ∧ l.length ≤ 1000 ∧ ∀ H', Same H H' → Q (.bl (l.all fun x => decide (x < 2 ^ n))) H'
def isCost (x : Nat) : Bool := decide (1 ≤ x) && decide (x ≤ 1000)
def spIsCost : Sp := fun vs H Q _ => ∃ x : Nat, vs = [vN x] ∧ Q (.bl (isCost x)) H
theorem shr0 (x n : Nat) : decide (V.int ((x : Int) / 2 ^ ((n : Int)).toNat) = V.int 0) = decide (x < 2 ^ n) := by
  rw [Int.toNat_natCast, Bool.eq_iff_iff, decide_eq_true_eq, decide_eq_true_eq, V.int.injEq]
  have e : (2 : Int) ^ n = ((2 ^ n : Nat) : Int) := by simp
  rw [e, ← Int.natCast_ediv]
  have p : 0 < 2 ^ n := Nat.two_pow_pos n
  constructor
  · intro h
    have h : x / 2 ^ n = 0 := by omega
    exact (Nat.div_eq_zero_iff.mp h).resolve_left (by omega)
  · intro h
    rw [Nat.div_eq_of_lt h]
    rfl
section
variable {P : Program} {w : World} {K : PySem.W.Frag} {mg : Str → Option Value} {base : Heap} {C : Addr}
theorem scAre : FnScope ["sets", "fact_count", "facts"] ["sets", "fact_count"] (defScope sAre) := ⟨rfl, rfl, rfl, by decide +kernel, rfl, by decide +kernel, by decide +kernel⟩
theorem ok_are {f : Addr} {fd : FuncData} (F : Fun K "are_fact_sets" "are_fact_sets" sAre f fd) (all : mg "all" = none) : FnOk P w K mg base CX0 1 f fd ["sets", "fact_count"] (spAre K) := by
  refine F.ok scAre (fun vs H Q E h => ?_) (fun cdv A outer s H vs Q E hr h => ?_)
  · obtain ⟨a, l, n, rfl, _⟩ := h
    rfl
  · obtain ⟨a, l, n, rfl, hl, hlen, k⟩ := h
    refine ⟨_, pss_one (ps_ret (pe_callB (cr_all rfl) (by rfl) all (by decide +kernel) (pa_cons (pe_lc (own := [("facts", 2)]) (g := gName 2) (tt := tYes) rfl scAre.nd (pi_list (pv 0)) (blkOk_by (N := ["sets", "fact_count", "facts"]) (sc := defScope sAre) (by decide +kernel))
      (fun _ _ _ _ _ => pg_name (i := 2) scAre.nd rfl (Or.inl rfl)) (fun _ _ _ _ _ => pts_nil)
      (fun _ _ _ _ _ => pe_cmpR op_eq (pe_op op_shr (pv 2) (pv 1)) pe_int (nomark _))) pa_nil))), ?_⟩
    refine ⟨_, rfl, a, rfl, ⟨_, hl⟩, fun D hD => lc_mT (fun (x : Nat) => V.bl (decide (x < 2 ^ n))) hD hl hlen (fun _ => rfl) ?_ ?_⟩
    · intro y H' Qv _ s1 q
      refine ⟨_, rfl, _, rfl, _, _, rfl, rfl, Int.natCast_nonneg n, rfl, ?_⟩
      show Qv (V.bl (decide (V.int ((y : Int) / 2 ^ ((n : Int)).toNat) = V.int 0))) H'
      rw [shr0]
      exact q H' (Same.refl _)
    · intro H' s1 hD'
      refine ⟨D, l.map (fun x => decide (x < 2 ^ n)), rfl, SqL.of (by rw [hD', List.map_map]; rfl), ?_⟩
      have := k H' s1
      rw [List.all_map]
      exact this
theorem scIsCost : FnScope ["number"] ["number"] (defScope sIsCost) := ⟨rfl, rfl, rfl, by decide +kernel, rfl, by decide +kernel, by decide +kernel⟩
theorem ok_isCost {f : Addr} {fd : FuncData} (F : Fun K "is_cost" "is_cost" sIsCost f fd) (mc : Cn mg "MOST_COST" 1000) : FnOk P w K mg base CX0 1 f fd ["number"] spIsCost := by
  refine F.ok scIsCost (fun vs H Q E h => ?_) (fun cdv A outer s H vs Q E hr h => ?_)
  · obtain ⟨x, rfl, _⟩ := h
    rfl
  · obtain ⟨x, rfl, k⟩ := h
    refine ⟨_, pss_one (ps_ret (pe_chain op_le op_le pe_int (pv 0) (pe_cn mc))), ?_⟩
    refine ⟨_, rfl, _, _, rfl, rfl, _, rfl, ?_⟩
    unfold isCost at k
    have e1 : decide ((1 : Int) ≤ (x : Int)) = decide (1 ≤ x) := by
      rw [Bool.eq_iff_iff, decide_eq_true_eq, decide_eq_true_eq]
      omega
    have e2 : decide ((x : Int) ≤ 1000) = decide (x ≤ 1000) := by
      rw [Bool.eq_iff_iff, decide_eq_true_eq, decide_eq_true_eq]
      omega
    show if decide ((1 : Int) ≤ (x : Int)) = true then _ else _
    rw [e1]
    cases c : decide (1 ≤ x) with
    | false =>
      rw [c] at k
      exact iteF k
    | true =>
      rw [c, Bool.true_and] at k
      refine iteT ⟨_, _, rfl, rfl, ?_⟩
      show Q (V.bl (decide ((x : Int) ≤ 1000))) H
      rw [e2]
      exact k
end
/-! ### the house in the heap -/
def hF (s : Pn14.House) (la lp : Addr) : List (Str × V) := [("fact_count", vN s.task.facts), ("first", vN s.task.start), ("wanted", vN s.task.goal), ("acts", .ref la), ("price_list", .ref lp)]
def hK : List Str := ["fact_count", "first", "wanted", "acts", "price_list"]
theorem hF_count (s : Pn14.House) (la lp : Addr) : (hF s la lp).lookup ("fact_count" : Str) = some (vN s.task.facts) := lk_ix 0 (show hK.findIdx (· == ("fact_count" : Str)) = 0 by decide +kernel) rfl
theorem hF_first (s : Pn14.House) (la lp : Addr) : (hF s la lp).lookup ("first" : Str) = some (vN s.task.start) := lk_ix 1 (show hK.findIdx (· == ("first" : Str)) = 1 by decide +kernel) rfl
theorem hF_wanted (s : Pn14.House) (la lp : Addr) : (hF s la lp).lookup ("wanted" : Str) = some (vN s.task.goal) := lk_ix 2 (show hK.findIdx (· == ("wanted" : Str)) = 2 by decide +kernel) rfl
theorem hF_acts (s : Pn14.House) (la lp : Addr) : (hF s la lp).lookup ("acts" : Str) = some (.ref la) := lk_ix 3 (show hK.findIdx (· == ("acts" : Str)) = 3 by decide +kernel) rfl
theorem hF_prices (s : Pn14.House) (la lp : Addr) : (hF s la lp).lookup ("price_list" : Str) = some (.ref lp) := lk_ix 4 (show hK.findIdx (· == ("price_list" : Str)) = 4 by decide +kernel) rfl
theorem hF_no (s : Pn14.House) (la lp : Addr) {m : Str} (h : hK.contains m = false) : (hF s la lp).lookup m = none := lk_no (show ((hF s la lp).map Prod.fst).contains m = false from h)
theorem hF_not {s : Pn14.House} {la lp : Addr} {a : Ac} (e : hF s la lp = aF a) : False := by
  have q : ("fact_count" : Str) = "needs" := congrArg (fun l => match l with | [] => ("fact_count" : Str) | p :: _ => p.1) e
  exact absurd q (by decide +kernel)
structure TxH (K : PySem.W.Frag) (C : Addr) : Prop where
  cl : Cls K C
  n1 : NoAttr K C "fact_count"
  n2 : NoAttr K C "first"
  n3 : NoAttr K C "wanted"
  n4 : NoAttr K C "acts"
  n5 : NoAttr K C "price_list"
/-- the house s stands at h, its acts in the list la -/
def HouseAt (CH CA : Addr) (H : Hp) (h la lp : Addr) (s : Pn14.House) : Prop := ∃ (dx : Addr) (ps : List Addr), H h = some (.ins CH dx (hF s la lp)) ∧ H la = some (.lst (ps.map V.ref)) ∧ H lp = some (.lst (lN s.prices)) ∧ ActsAt CA H ps s.task.acts ∧ la ≠ lp
theorem HouseAt.same {CH CA : Addr} {H H' : Hp} {h la lp : Addr} {s : Pn14.House} (k : HouseAt CH CA H h la lp s) (e : Same H H') : HouseAt CH CA H' h la lp s := by
  obtain ⟨dx, ps, h1, h2, h3, h4, h5⟩ := k
  exact ⟨dx, ps, e _ _ h1, e _ _ h2, e _ _ h3, h4.same e, h5⟩
structure HOk (s : Pn14.House) : Prop where
  t : Ok s.task
  len : s.prices.length = s.task.facts
  each : ∀ x ∈ s.prices, 1 ≤ x ∧ x ≤ 1000
/-- all but the house and its list of acts is as it was -/
def Frame (H H' : Hp) (h la : Addr) : Prop := ∀ b o, H b = some o → b ≠ h → b ≠ la → H' b = some o
theorem Frame.of {H H' : Hp} {h la : Addr} (s : Same H H') : Frame H H' h la := fun b o e _ _ => s b o e
/-- what a call on the house leaves: the house behind it, the answer in a new list -/
def After (CH CA : Addr) (H : Hp) (h la lp : Addr) (r : Pn14.House × Pn14.Ans) (Q : VK) : Prop := ∀ (H' : Hp) (p la' lp' : Addr), HouseAt CH CA H' h la' lp' r.1 → (la' = la ∨ H la' = Option.none) → (lp' = lp ∨ H lp' = Option.none) → Frame H H' h la → H p = Option.none → H' p = some (.lst ((Pn14Neutral.out r.2).map V.int)) → Q (.ref p) H'
def spHInit (C CA : Addr) : Sp := fun vs H Q _ => ∃ (p dx : Addr), vs = [.ref p] ∧ H p = some (.ins C dx []) ∧ ∀ (H' : Hp) (la lp : Addr), HouseAt C CA H' p la lp Pn14.init → H la = Option.none → H lp = Option.none → (∀ b o, H b = some o → b ≠ p → H' b = some o) → Q .non H'
def spBegins (C CA : Addr) : Sp := fun vs H Q _ => ∃ (h la lp : Addr) (s : Pn14.House) (n f g : Nat), vs = [.ref h, vN n, vN f, vN g] ∧ HouseAt C CA H h la lp s ∧ After C CA H h la lp (Pn14.step s (.begins n f g)) Q
def spFrom (C CA : Addr) : Sp := fun vs H Q _ => ∃ (h la lp : Addr) (s : Pn14.House) (f g : Nat), vs = [.ref h, vN f, vN g] ∧ HouseAt C CA H h la lp s ∧ After C CA H h la lp (Pn14.step s (.from_ f g)) Q
def spActM (K : PySem.W.Frag) (C CA : Addr) : Sp := fun vs H Q _ => ∃ (h la lp b : Addr) (s : Pn14.House) (l : List Nat), vs = [.ref h, .ref b] ∧ HouseAt C CA H h la lp s ∧ HOk s ∧ SqL K H b (lN l) ∧ l.length ≤ 8 ∧ After C CA H h la lp (Pn14.step s (.act l)) Q
def spPrices (K : PySem.W.Frag) (C CA : Addr) : Sp := fun vs H Q _ => ∃ (h la lp b : Addr) (s : Pn14.House) (l : List Nat), vs = [.ref h, .ref b] ∧ HouseAt C CA H h la lp s ∧ SqL K H b (lN l) ∧ l.length ≤ 8 ∧ After C CA H h la lp (Pn14.step s (.prices l)) Q
def spGreatest (C CA : Addr) : Sp := fun vs H Q _ => ∃ (h la lp : Addr) (s : Pn14.House), vs = [.ref h] ∧ HouseAt C CA H h la lp s ∧ HOk s ∧ After C CA H h la lp (Pn14.step s .greatest) Q
end Wn

set_option Elab.async false
set_option maxRecDepth 100000
set_option maxHeartbeats 4000000
/-! The house's calls of stage 1. -/
namespace Wn
open PySem PySem.Spec PyProof.Rows L2
section
variable {P : Program} {w : World} {K : PySem.W.Frag} {mg : Str → Option Value} {base : Heap} {C CA : Addr}
theorem scHInit : FnScope ["self"] ["self"] (defScope sHInit) := ⟨rfl, rfl, rfl, by decide +kernel, rfl, by decide +kernel, by decide +kernel⟩
theorem ok_hInit {f : Addr} {fd : FuncData} (F : Fun K "__init__" "House.__init__" sHInit f fd) (T : TxH K C) : FnOk P w K mg base CX0 1 f fd ["self"] (spHInit C CA) := by
  refine F.ok scHInit (fun vs H Q E h => ?_) (fun cdv A outer s H vs Q E hr h => ?_)
  · obtain ⟨p, dx, rfl, _⟩ := h
    rfl
  · obtain ⟨p, dx, rfl, hp, k⟩ := h
    refine ⟨_, pss_cons (ps_fld (pv 0) pe_int rfl) (pss_cons (ps_fld (pv 0) pe_int rfl) (pss_cons (ps_fld (pv 0) pe_int rfl) (pss_cons (ps_fld (pv 0) (pe_lst pa_nil) rfl) (pss_one (ps_fld (pv 0) (pe_lst (pa_cons pe_int pa_nil)) rfl))))), ?_⟩
    refine ⟨_, rfl, p, C, dx, [], rfl, hp, T.cl, T.n1, (by show 0 < 1000; decide), ?_⟩
    refine ⟨_, rfl, p, C, dx, _, rfl, upd_same, T.cl, T.n2, (by show 1 < 1000; decide), ?_⟩
    rw [put_end (show ((["fact_count"] : List Str)).contains "first" = false by decide +kernel)]
    refine ⟨_, rfl, p, C, dx, _, rfl, upd_same, T.cl, T.n3, (by show 2 < 1000; decide), ?_⟩
    rw [put_end (show ((["fact_count", "first"] : List Str)).contains "wanted" = false by decide +kernel)]
    refine ⟨Nat.zero_le _, fun la hla => ?_⟩
    have n0 := upd_none hla
    have n1 := upd_none n0.2
    have n2 := upd_none n1.2
    have npl : p ≠ la := fun q => n0.1 q.symm
    refine ⟨_, rfl, p, C, dx, _, rfl, Eq.trans (upd_ne npl) upd_same, T.cl, T.n4, (by show 3 < 1000; decide), ?_⟩
    rw [put_end (show ((["fact_count", "first", "wanted"] : List Str)).contains "acts" = false by decide +kernel)]
    refine ⟨(by show 1 ≤ sizeLine; decide), fun lp hlp => ?_⟩
    have m0 := upd_none hlp
    have m1 := upd_none m0.2
    have npq : p ≠ lp := fun q => m0.1 q.symm
    refine ⟨_, rfl, p, C, dx, _, rfl, Eq.trans (upd_ne npq) upd_same, T.cl, T.n5, (by show 4 < 1000; decide), ?_⟩
    rw [put_end (show ((["fact_count", "first", "wanted", "acts"] : List Str)).contains "price_list" = false by decide +kernel)]
    have nal : la ≠ lp := fun q => m1.1 q.symm
    refine k _ la lp ⟨dx, [], upd_same, ?_, ?_, ⟨rfl, fun i q e => by simp at e⟩, nal⟩ n2.2 (upd_none (upd_none (upd_none m1.2).2).2).2 fun b o e hb => ?_
    · rw [upd_ne npl.symm, upd_ne nal, upd_ne npl.symm, upd_same]
      rfl
    · rw [upd_ne npq.symm, upd_same]
      rfl
    · have hH : H b = some o := e
      have nbl : b ≠ la := ne_of_none e n2.2
      have nbp : b ≠ lp := fun q => by
        have z := (upd_none (upd_none (upd_none m1.2).2).2).2
        rw [← q, hH] at z
        cases z
      rw [upd_ne hb, upd_ne nbp, upd_ne hb, upd_ne nbl, upd_ne hb, upd_ne hb, upd_ne hb]
      exact e
theorem scBegins : FnScope ["self", "n", "first", "wanted"] ["self", "n", "first", "wanted"] (defScope sBegins) := ⟨rfl, rfl, rfl, by decide +kernel, rfl, by decide +kernel, by decide +kernel⟩
theorem rep1 (n : Nat) : (List.replicate ((n : Int)).toNat [V.int 1]).flatten = lN (List.replicate n 1) := by
  rw [Int.toNat_natCast]
  induction n with
  | zero => rfl
  | succ n ih =>
    rw [List.replicate_succ, List.flatten_cons, ih, List.replicate_succ]
    rfl
/-- a refusal: all as it was -/
theorem After.no {H H' : Hp} {h la lp p : Addr} {s : Pn14.House} {v : Int} {Q : VK} (a : After C CA H h la lp (s, Pn14.ok v) Q) (hh : HouseAt C CA H h la lp s) (e : Same H H') (hp : H p = Option.none) (q : H' p = some (.lst [.int v])) : Q (.ref p) H' :=
  a H' p la lp (hh.same e) (.inl rfl) (.inl rfl) (.of e) hp q
theorem ok_begins {f fF : Addr} {fd fdF : FuncData} (F : Fun K "begins" "House.begins" sBegins f fd) (T : TxH K C) (mf : Cn mg "MOST_FACTS" 5) (na : Cn mg "NOT_AS_TOLD" (-1)) (dn : Cn mg "DONE" 0)
    (GF : FnOk P w K mg base CX0 1 fF fdF ["sets", "fact_count"] (spAre K)) (bF : Binds K fdF ["sets", "fact_count"] []) (mF : mg "are_fact_sets" = some (.ref fF)) (kF : PySem.W.keepIn K (.ref fF) = true) : FnOk P w K mg base CX0 2 f fd ["self", "n", "first", "wanted"] (spBegins C CA) := by
  refine F.ok scBegins (fun vs H Q E h => ?_) (fun cdv A outer s H vs Q E hr h => ?_)
  · obtain ⟨h, la, lp, s, n, f, g, rfl, _⟩ := h
    rfl
  · obtain ⟨h, la, lp, st, n, fs, g, rfl, hh, k⟩ := h
    refine ⟨_, pss_cons (ps_if (PW.pt (pw_or (pt_cmpR op_lt (pv 1) pe_int (nomark _)) (pw_or (pt_cmpR op_gt (pv 1) (pe_cn mf) (nomark _))
        (pw_or1 (pt_not (pt_val (pe_call GF hr rfl mF kF bF .nil pass0 (pa_cons (pe_lst (pa_cons (pv 2) (pa_cons (pv 3) pa_nil))) (pa_cons (pv 1) pa_nil)))))))))
        (pss_one (ps_ret (pe_lst (pa_cons (pe_cn na) pa_nil)))) pss_nil)
      (pss_cons (ps_fld (pv 0) (pv 1) rfl) (pss_cons (ps_fld (pv 0) (pv 2) rfl) (pss_cons (ps_fld (pv 0) (pv 3) rfl) (pss_cons (ps_fld (pv 0) (pe_lst pa_nil) rfl)
      (pss_cons (ps_fld (pv 0) (pe_op op_rep (pe_lst (pa_cons pe_int pa_nil)) (pv 1)) rfl) (pss_one (ps_ret (pe_lst (pa_cons (pe_cn dn) pa_nil))))))))), ?_⟩
    have no : ∀ (H1 : Hp), Same H H1 → (n = 0 ∨ Pn14.FACTS < n ∨ 2 ^ n ≤ fs ∨ 2 ^ n ≤ g) → tRet (tLst (tCons (tC (.int (-1))) tNil)) { nx := fun _ H' => Q .non H', rt := Q } (start ["self", "n", "first", "wanted"] [.ref h, vN n, vN fs, vN g]) H1 := by
      intro H1 s1 c
      refine ⟨(by show 1 ≤ sizeLine; decide), fun p hp => ?_⟩
      have e : Pn14.step st (.begins n fs g) = (st, Pn14.ok (-1)) := if_pos c
      rw [e] at k
      exact k.no hh (same_upd s1 (s1.free hp)) (s1.free hp) upd_same
    refine ⟨_, rfl, _, _, rfl, rfl, _, rfl, ?_⟩
    by_cases c1 : n = 0
    · have d1 : decide ((n : Int) < 1) = true := decide_eq_true (by omega)
      show if decide ((n : Int) < 1) = true then _ else _
      rw [d1]
      exact iteT (iteT (no H (Same.refl _) (.inl c1)))
    · have d1 : decide ((n : Int) < 1) = false := decide_eq_false (by omega)
      show if decide ((n : Int) < 1) = true then _ else _
      rw [d1]
      refine iteF ⟨_, rfl, _, _, rfl, rfl, _, rfl, ?_⟩
      by_cases c2 : 5 < n
      · have d2 : decide ((5 : Int) < (n : Int)) = true := decide_eq_true (by omega)
        show if decide ((5 : Int) < (n : Int)) = true then _ else _
        rw [d2]
        exact iteT (iteT (no H (Same.refl _) (.inr (.inl c2))))
      · have d2 : decide ((5 : Int) < (n : Int)) = false := decide_eq_false (by omega)
        show if decide ((5 : Int) < (n : Int)) = true then _ else _
        rw [d2]
        refine iteF ⟨_, rfl, _, rfl, (by show 2 ≤ sizeLine; decide), fun q hq => ?_⟩
        refine ⟨_, rfl, q, [fs, g], n, rfl, SqL.of upd_same, (by show 2 ≤ 1000; decide), fun H1 s0 => ⟨_, rfl, ?_⟩⟩
        have s1 : Same H H1 := (same_new hq).trans s0
        by_cases c3 : 2 ^ n ≤ fs ∨ 2 ^ n ≤ g
        · have d3 : (([fs, g] : List Nat).all fun x => decide (x < 2 ^ n)) = false := by
            rw [List.all_cons, List.all_cons, List.all_nil, Bool.and_true, Bool.and_eq_false_iff, decide_eq_false_iff_not, decide_eq_false_iff_not]
            omega
          rw [d3]
          exact iteT (no H1 s1 (.inr (.inr c3)))
        · have d3 : (([fs, g] : List Nat).all fun x => decide (x < 2 ^ n)) = true := by
            rw [List.all_cons, List.all_cons, List.all_nil, Bool.and_true, Bool.and_eq_true, decide_eq_true_eq, decide_eq_true_eq]
            omega
          rw [d3]
          refine iteF ?_
          have hstep : Pn14.step st (.begins n fs g) = (⟨⟨n, [], fs, g⟩, List.replicate n 1⟩, Pn14.ok 0) := if_neg (by
            unfold Pn14.FACTS
            omega)
          rw [hstep] at k
          obtain ⟨dx, ps, h1, h2, h3, h4, h5⟩ := hh.same s1
          have key : ((hF st la lp).map Prod.fst) = hK := rfl
          refine ⟨_, rfl, _, rfl, h, C, dx, _, rfl, h1, T.cl, T.n1, (by show 5 < 1000; decide), ?_⟩
          rw [put_ix 0 (show hK.findIdx (· == ("fact_count" : Str)) = 0 by decide +kernel) (by show 0 < 5; decide)]
          refine ⟨_, rfl, _, rfl, h, C, dx, _, rfl, upd_same, T.cl, T.n2, (by show 5 < 1000; decide), ?_⟩
          rw [put_ix 1 (show hK.findIdx (· == ("first" : Str)) = 1 by decide +kernel) (by show 1 < 5; decide)]
          refine ⟨_, rfl, _, rfl, h, C, dx, _, rfl, upd_same, T.cl, T.n3, (by show 5 < 1000; decide), ?_⟩
          rw [put_ix 2 (show hK.findIdx (· == ("wanted" : Str)) = 2 by decide +kernel) (by show 2 < 5; decide)]
          refine ⟨Nat.zero_le _, fun a1 ha1 => ?_⟩
          have n0 := upd_none ha1
          have n1 := upd_none n0.2
          have n2 := upd_none n1.2
          have nha : h ≠ a1 := fun q => n0.1 q.symm
          refine ⟨_, rfl, h, C, dx, _, rfl, Eq.trans (upd_ne nha) upd_same, T.cl, T.n4, (by show 5 < 1000; decide), ?_⟩
          rw [put_ix 3 (show hK.findIdx (· == ("acts" : Str)) = 3 by decide +kernel) (by show 3 < 5; decide)]
          refine ⟨(by show 1 ≤ sizeLine; decide), fun a2 ha2 => ?_⟩
          have m0 := upd_none ha2
          have m1 := upd_none m0.2
          refine ⟨_, rfl, a2, _, _, rfl, rfl, upd_same, (by show (-(2 ^ 63) : Int) ≤ (n : Int); omega), (by show (n : Int) < 2 ^ 63; omega), ?_, fun a3 ha3 => ?_⟩
          · rw [Int.toNat_natCast]
            exact Nat.le_of_lt (small1000 (by show 1 * n ≤ 1000; omega))
          rw [rep1]
          have o0 := upd_none ha3
          have o1 := upd_none o0.2
          have o2 := upd_none o1.2
          have nh2 : h ≠ a2 := fun q => m0.1 q.symm
          have nh3 : h ≠ a3 := fun q => o1.1 q.symm
          refine ⟨_, rfl, h, C, dx, _, rfl, Eq.trans (upd_ne nh3) (Eq.trans (upd_ne nh2) upd_same), T.cl, T.n5, (by show 5 < 1000; decide), ?_⟩
          rw [put_ix 4 (show hK.findIdx (· == ("price_list" : Str)) = 4 by decide +kernel) (by show 4 < 5; decide)]
          refine ⟨(by show 1 ≤ sizeLine; decide), fun p hp => ?_⟩
          have p0 := upd_none hp
          have p1 := upd_none p0.2
          have p2 := upd_none p1.2
          have p3 := upd_none p2.2
          have p4 := upd_none p3.2
          have np : H1 p = Option.none := (upd_none (upd_none (upd_none p4.2).2).2).2
          have nhp : h ≠ p := fun q => p0.1 q.symm
          have na1 : a1 ≠ p := fun q => p4.1 q.symm
          have na2 : a2 ≠ p := fun q => p2.1 q.symm
          have na3 : a3 ≠ p := fun q => p1.1 q.symm
          have n13 : a1 ≠ a3 := fun q => o2.1 q.symm
          have n12 : a1 ≠ a2 := fun q => m1.1 q.symm
          refine k _ p a1 a3 ⟨dx, [], ?_, ?_, ?_, ⟨rfl, fun i q e => by simp at e⟩, n13⟩ (.inr (s1.free n2.2)) (.inr (s1.free (upd_none (upd_none (upd_none o2.2).2).2).2)) (fun b o e hb _ => ?_) (s1.free np) upd_same
          · rw [upd_ne nhp, upd_same]
            rfl
          · rw [upd_ne na1, upd_ne nha.symm, upd_ne n13, upd_ne n12, upd_ne nha.symm, upd_same]
            rfl
          · rw [upd_ne na3, upd_ne nh3.symm, upd_same]
          · have e1 : H1 b = some o := s1 _ _ e
            have b1 : b ≠ a1 := ne_of_none e1 n2.2
            have m2 := upd_none (upd_none (upd_none m1.2).2).2
            have b2 : b ≠ a2 := ne_of_none e1 m2.2
            have o3 := upd_none (upd_none (upd_none o2.2).2).2
            have b3 : b ≠ a3 := ne_of_none e1 o3.2
            have bp : b ≠ p := ne_of_none e1 np
            rw [upd_ne bp, upd_ne hb, upd_ne b3, upd_ne b2, upd_ne hb, upd_ne b1, upd_ne hb, upd_ne hb, upd_ne hb]
            exact e1
end
end Wn

set_option Elab.async false
set_option maxRecDepth 100000
set_option maxHeartbeats 4000000
/-! from_state, prices, act, greatest. -/
namespace Wn
open PySem PySem.Spec PyProof.Rows L2
section
variable {P : Program} {w : World} {K : PySem.W.Frag} {mg : Str → Option Value} {base : Heap} {C CA : Addr}
theorem scFrom : FnScope ["self", "first", "wanted"] ["self", "first", "wanted"] (defScope sFrom) := ⟨rfl, rfl, rfl, by decide +kernel, rfl, by decide +kernel, by decide +kernel⟩
theorem all2 (a b m : Nat) : (([a, b] : List Nat).all fun x => decide (x < m)) = !decide (m ≤ a ∨ m ≤ b) := by
  rw [List.all_cons, List.all_cons, List.all_nil, Bool.and_true, Bool.eq_iff_iff, Bool.and_eq_true, decide_eq_true_eq, decide_eq_true_eq, Bool.not_eq_true', decide_eq_false_iff_not]
  omega
theorem ok_from {f fF : Addr} {fd fdF : FuncData} (F : Fun K "from_state" "House.from_state" sFrom f fd) (T : TxH K C) (na : Cn mg "NOT_AS_TOLD" (-1)) (dn : Cn mg "DONE" 0)
    (GF : FnOk P w K mg base CX0 1 fF fdF ["sets", "fact_count"] (spAre K)) (bF : Binds K fdF ["sets", "fact_count"] []) (mF : mg "are_fact_sets" = some (.ref fF)) (kF : PySem.W.keepIn K (.ref fF) = true) : FnOk P w K mg base CX0 2 f fd ["self", "first", "wanted"] (spFrom C CA) := by
  refine F.ok scFrom (fun vs H Q E h => ?_) (fun cdv A outer s H vs Q E hr h => ?_)
  · obtain ⟨h, la, lp, s, f, g, rfl, _⟩ := h
    rfl
  · obtain ⟨h, la, lp, st, fs, g, rfl, hh, k⟩ := h
    refine ⟨_, pss_cons (ps_if (pt_not (pt_val (pe_call GF hr rfl mF kF bF .nil pass0 (pa_cons (pe_lst (pa_cons (pv 1) (pa_cons (pv 2) pa_nil))) (pa_cons (pe_fld (pv 0) rfl) pa_nil)))))
        (pss_one (ps_ret (pe_lst (pa_cons (pe_cn na) pa_nil)))) pss_nil)
      (pss_cons (ps_fld (pv 0) (pv 1) rfl) (pss_cons (ps_fld (pv 0) (pv 2) rfl) (pss_one (ps_ret (pe_lst (pa_cons (pe_cn dn) pa_nil)))))), ?_⟩
    obtain ⟨dx, ps, h1, h2, h3, h4, h5⟩ := id hh
    refine ⟨_, rfl, _, rfl, (by show 2 ≤ sizeLine; decide), fun q hq => ?_⟩
    have nhq : h ≠ q := ne_of_none h1 hq
    refine ⟨_, rfl, h, C, dx, _, _, rfl, Eq.trans (upd_ne nhq) h1, T.cl, T.n1, hF_count _ _ _, q, [fs, g], st.task.facts, rfl, SqL.of upd_same, (by show 2 ≤ 1000; decide), fun H1 s0 => ⟨_, rfl, ?_⟩⟩
    have s1 : Same H H1 := (same_new hq).trans s0
    rw [all2]
    by_cases c : 2 ^ st.task.facts ≤ fs ∨ 2 ^ st.task.facts ≤ g
    · rw [decide_eq_true c]
      refine iteT ⟨(by show 1 ≤ sizeLine; decide), fun p hp => ?_⟩
      have e : Pn14.step st (.from_ fs g) = (st, Pn14.ok (-1)) := if_pos c
      rw [e] at k
      exact k.no hh (same_upd s1 (s1.free hp)) (s1.free hp) upd_same
    · rw [decide_eq_false c]
      refine iteF ?_
      have e : Pn14.step st (.from_ fs g) = ({ st with task := { st.task with start := fs, goal := g } }, Pn14.ok 0) := if_neg c
      rw [e] at k
      have h1' := s1 _ _ h1
      refine ⟨_, rfl, _, rfl, h, C, dx, _, rfl, h1', T.cl, T.n2, (by show 5 < 1000; decide), ?_⟩
      rw [put_ix 1 (show hK.findIdx (· == ("first" : Str)) = 1 by decide +kernel) (by show 1 < 5; decide)]
      refine ⟨_, rfl, _, rfl, h, C, dx, _, rfl, upd_same, T.cl, T.n3, (by show 5 < 1000; decide), ?_⟩
      rw [put_ix 2 (show hK.findIdx (· == ("wanted" : Str)) = 2 by decide +kernel) (by show 2 < 5; decide)]
      refine ⟨(by show 1 ≤ sizeLine; decide), fun p hp => ?_⟩
      have p0 := upd_none hp
      have p1 := upd_none p0.2
      have nhp : h ≠ p := fun z => p0.1 z.symm
      have fr : ∀ b o, H b = some o → b ≠ h → upd (upd (upd H1 h (.ins C dx ((hF st la lp).set 1 ("first", vN fs)))) h (.ins C dx (((hF st la lp).set 1 ("first", vN fs)).set 2 ("wanted", vN g)))) p (.lst [V.int 0]) b = some o := fun b o e hb => by
        have e1 := s1 _ _ e
        rw [upd_ne (ne_of_none e1 p1.2), upd_ne hb, upd_ne hb]
        exact e1
      have hlh : la ≠ h := ne_of h2 h1 (by intro z; cases z)
      have hph : lp ≠ h := ne_of h3 h1 (by intro z; cases z)
      refine k _ p la lp ⟨dx, ps, ?_, fr _ _ h2 hlh, fr _ _ h3 hph, h4.keep fun q dy a hq' => fr _ _ hq' ?_, h5⟩ (.inl rfl) (.inl rfl) (fun b o e hb _ => fr b o e hb) (s1.free p1.2) upd_same
      · rw [upd_ne nhp, upd_same]
        rfl
      · intro z
        subst z
        rw [h1] at hq'
        injection hq' with hq'
        injection hq' with e1 e2 e3
        exact hF_not e3
end
end Wn

set_option Elab.async false
set_option maxRecDepth 100000
set_option maxHeartbeats 4000000
/-! prices, act, greatest. -/
namespace Wn
open PySem PySem.Spec PyProof.Rows L2
section
variable {P : Program} {w : World} {K : PySem.W.Frag} {mg : Str → Option Value} {base : Heap} {C CA : Addr}
theorem scPrices : FnScope ["self", "each", "price"] ["self", "each"] (defScope sPrices) := ⟨rfl, rfl, rfl, by decide +kernel, rfl, by decide +kernel, by decide +kernel⟩
theorem all_cost (l : List Nat) : l.all isCost = !(l.any fun p => p == 0 || decide (Pn.COST < p)) := by
  induction l with
  | nil => rfl
  | cons a l ih =>
    rw [List.all_cons, List.any_cons, ih, Bool.not_or]
    congr 1
    unfold isCost Pn.COST
    rw [Bool.eq_iff_iff, Bool.and_eq_true, decide_eq_true_eq, decide_eq_true_eq, Bool.not_eq_true', Bool.or_eq_false_iff, beq_eq_false_iff_ne, decide_eq_false_iff_not]
    omega
theorem neInt (a b : Nat) : (!decide (V.int (a : Int) = V.int (b : Int))) = decide (a ≠ b) := by
  rw [Bool.eq_iff_iff, Bool.not_eq_true', decide_eq_false_iff_not, decide_eq_true_eq, V.int.injEq, Int.natCast_inj]
theorem eqInt (a b : Nat) : decide (V.int (a : Int) = V.int (b : Int)) = decide (a = b) := by
  rw [Bool.eq_iff_iff, decide_eq_true_eq, decide_eq_true_eq, V.int.injEq, Int.natCast_inj]
theorem ok_prices {f fC : Addr} {fd fdC : FuncData} (F : Fun K "prices" "House.prices" sPrices f fd) (T : TxH K C) (na : Cn mg "NOT_AS_TOLD" (-1)) (dn : Cn mg "DONE" 0) (len : mg "len" = none) (all : mg "all" = none) (list : mg "list" = none)
    (GC : FnOk P w K mg base CX0 1 fC fdC ["number"] spIsCost) (bC : Binds K fdC ["number"] []) (mC : mg "is_cost" = some (.ref fC)) (kC : PySem.W.keepIn K (.ref fC) = true) : FnOk P w K mg base CX0 2 f fd ["self", "each"] (spPrices K C CA) := by
  refine F.ok scPrices (fun vs H Q E h => ?_) (fun cdv A outer s H vs Q E hr h => ?_)
  · obtain ⟨h, la, lp, b, s, l, rfl, _⟩ := h
    rfl
  · obtain ⟨h, la, lp, b, st, l, rfl, hh, hl, hlen, k⟩ := h
    refine ⟨_, pss_cons (ps_if (PW.pt (pw_or (pt_cmpR op_ne (pe_callB call_len_seq (by rfl) len PySem.boot_len (pa_cons (pv 1) pa_nil)) (pe_fld (pv 0) rfl) (nomark _))
        (pw_or1 (pt_not (pt_val (pe_callB (cr_all rfl) (by rfl) all (by decide +kernel) (pa_cons (pe_lc (own := [("price", 2)]) (g := gName 2) (tt := tYes) rfl scPrices.nd (pi_list (pv 1)) (blkOk_by (N := ["self", "each", "price"]) (sc := defScope sPrices) (by decide +kernel))
          (fun _ _ _ _ _ => pg_name (i := 2) scPrices.nd rfl (Or.inl rfl)) (fun _ _ _ _ _ => pts_nil)
          (fun _ _ _ _ _ => pe_call GC hr rfl mC kC bC .nil pass0 (pa_cons (pv 2) pa_nil))) pa_nil)))))))
        (pss_one (ps_ret (pe_lst (pa_cons (pe_cn na) pa_nil)))) pss_nil)
      (pss_cons (ps_fld (pv 0) (pe_callTy call_list_of (by rfl) list (by decide +kernel) (pa_cons (pv 1) pa_nil)) rfl) (pss_one (ps_ret (pe_lst (pa_cons (pe_cn dn) pa_nil))))), ?_⟩
    obtain ⟨dx, ps, h1, h2, h3, h4, h5⟩ := id hh
    have no : ∀ (H1 : Hp), Same H H1 → (l.length ≠ st.task.facts ∨ (l.any fun p => p == 0 || decide (Pn.COST < p)) = true) → tRet (tLst (tCons (tC (.int (-1))) tNil)) { nx := fun _ H' => Q .non H', rt := Q } (start ["self", "each", "price"] [.ref h, .ref b]) H1 := by
      intro H1 s1 c
      refine ⟨(by show 1 ≤ sizeLine; decide), fun p hp => ?_⟩
      have e : Pn14.step st (.prices l) = (st, Pn14.ok (-1)) := if_pos c
      rw [e] at k
      exact k.no hh (same_upd s1 (s1.free hp)) (s1.free hp) upd_same
    refine ⟨_, rfl, b, _, rfl, .inl hl, _, rfl, h, C, dx, _, _, rfl, h1, T.cl, T.n1, hF_count _ _ _, rfl, _, rfl, ?_⟩
    rw [neInt, List.length_map]
    by_cases c1 : l.length ≠ st.task.facts
    · rw [decide_eq_true c1]
      exact iteT (iteT (no H (Same.refl _) (.inl c1)))
    · rw [decide_eq_false c1]
      refine iteF ⟨_, rfl, b, rfl, ⟨_, hl⟩, fun D hD => lc_mT (fun (x : Nat) => V.bl (isCost x)) hD hl (by omega) (fun _ => rfl) ?_ ?_⟩
      · intro y H' Qv _ s1 q
        exact ⟨_, rfl, y, rfl, q H' (Same.refl _)⟩
      · intro H1 s1 hD'
        refine ⟨D, l.map isCost, rfl, SqL.of (by rw [hD', List.map_map]; rfl), _, rfl, ?_⟩
        rw [List.all_map, show (id ∘ isCost) = isCost from rfl, all_cost]
        cases c2 : (l.any fun p => p == 0 || decide (Pn.COST < p)) with
        | true => exact iteT (no H1 s1 (.inr c2))
        | false =>
          refine iteF ?_
          have e : Pn14.step st (.prices l) = ({ st with prices := l }, Pn14.ok 0) := if_neg (by
            rw [c2]
            intro z
            rcases z with z | z
            · exact c1 z
            · cases z)
          rw [e] at k
          have h1' := s1 _ _ h1
          refine ⟨_, rfl, b, _, rfl, .inl (s1.seq hl), fun q hq => ?_⟩
          have nhq : h ≠ q := ne_of_none h1' hq
          refine ⟨_, rfl, h, C, dx, _, rfl, Eq.trans (upd_ne nhq) h1', T.cl, T.n5, (by show 5 < 1000; decide), ?_⟩
          rw [put_ix 4 (show hK.findIdx (· == ("price_list" : Str)) = 4 by decide +kernel) (by show 4 < 5; decide)]
          refine ⟨(by show 1 ≤ sizeLine; decide), fun p hp => ?_⟩
          have p0 := upd_none hp
          have p1 := upd_none p0.2
          have nhp : h ≠ p := fun z => p0.1 z.symm
          have nqp : q ≠ p := fun z => p1.1 z.symm
          have fr : ∀ b' o, H b' = some o → b' ≠ h → upd (upd (upd H1 q (.lst (lN l))) h (.ins C dx ((hF st la lp).set 4 ("price_list", .ref q)))) p (.lst [V.int 0]) b' = some o := fun b' o e hb => by
            have e1 := s1 _ _ e
            rw [upd_ne (ne_of_none e1 p1.2), upd_ne hb, upd_ne (ne_of_none e1 hq)]
            exact e1
          have hlh : la ≠ h := ne_of h2 h1 (by intro z; cases z)
          refine k _ p la q ⟨dx, ps, ?_, fr _ _ h2 hlh, ?_, h4.keep fun a dy x hq' => fr _ _ hq' ?_, ?_⟩ (.inl rfl) (.inr (s1.free hq)) (fun b o e hb _ => fr b o e hb) (s1.free p1.2) upd_same
          · rw [upd_ne nhp, upd_same]
            rfl
          · rw [upd_ne nqp, upd_ne nhq.symm, upd_same]
          · intro z
            subst z
            rw [h1] at hq'
            injection hq' with hq'
            injection hq' with e1 e2 e3
            exact hF_not e3
          · exact ne_of_none (s1 _ _ h2) hq
theorem scGreatest : FnScope ["self", "sets"] ["self"] (defScope sGreatest) := ⟨rfl, rfl, rfl, by decide +kernel, rfl, by decide +kernel, by decide +kernel⟩
theorem ok_greatest {f fR fG : Addr} {fd fdR fdG : FuncData} (F : Fun K "greatest" "House.greatest" sGreatest f fd) (T : TxH K C) (len : mg "len" = none)
    (GR : FnOk P w K mg base CX0 3 fR fdR ["first", "acts"] (spReached K CA)) (bR : Binds K fdR ["first", "acts"] []) (mR : mg "reached_states" = some (.ref fR)) (kR : PySem.W.keepIn K (.ref fR) = true)
    (GG : FnOk P w K mg base CX0 3 fG fdG ["reached", "wanted"] (spGreatestSets K)) (bG : Binds K fdG ["reached", "wanted"] []) (mG : mg "greatest_sets" = some (.ref fG)) (kG : PySem.W.keepIn K (.ref fG) = true) : FnOk P w K mg base CX0 4 f fd ["self"] (spGreatest C CA) := by
  refine F.ok scGreatest (fun vs H Q E h => ?_) (fun cdv A outer s H vs Q E hr h => ?_)
  · obtain ⟨h, la, lp, s, rfl, _⟩ := h
    rfl
  · obtain ⟨h, la, lp, st, rfl, hh, ho, k⟩ := h
    refine ⟨_, pss_cons (ps_set (i := 1) scGreatest.nd rfl (Or.inl rfl) (pe_call GG hr rfl mG kG bG .nil pass0 (pa_cons (pe_call GR hr rfl mR kR bR .nil pass0 (pa_cons (pe_fld (pv 0) rfl) (pa_cons (pe_fld (pv 0) rfl) pa_nil))) (pa_cons (pe_fld (pv 0) rfl) pa_nil))))
      (pss_one (ps_ret (pe_op op_cat (pe_lst (pa_cons (pe_callB call_len_seq (by rfl) len PySem.boot_len (pa_cons (pv 1) pa_nil)) pa_nil)) (pv 1)))), ?_⟩
    obtain ⟨dx, ps, h1, h2, h3, h4, h5⟩ := id hh
    refine ⟨_, rfl, h, C, dx, _, _, rfl, h1, T.cl, T.n2, hF_first _ _ _, _, rfl, h, C, dx, _, _, rfl, h1, T.cl, T.n4, hF_acts _ _ _, st.task, st.task.start, la, ps, rfl, ho.t, ho.t.start, SqL.of h2, h4, fun H1 p1 R s1 n1 hp1 nd hR => ?_⟩
    have hRl : R.length ≤ 32 := by
      have := nodup_length (S := List.range (2 ^ st.task.facts)) nd fun x hx => List.mem_range.mpr (((hR x).mp hx).lt ho.t ho.t.start)
      rw [List.length_range] at this
      have := two32 ho.t.n
      omega
    refine ⟨_, rfl, h, C, dx, _, _, rfl, s1 _ _ h1, T.cl, T.n3, hF_wanted _ _ _, st.task, st.task.start, p1, R, rfl, ho.t, SqL.of hp1, hRl, rfl, hR, fun H2 p2 s2 n2 hp2 => ?_⟩
    refine ⟨_, rfl, p2, _, rfl, .inl (SqL.of hp2), (by show 1 ≤ sizeLine; decide), fun p3 n3 => ?_⟩
    have s3 := s1.trans s2
    have n23 : p2 ≠ p3 := ne_of_none hp2 n3
    have hGl : (Pn14.greatest st.task).length ≤ 32 := by
      have nd2 : (Pn14.greatest st.task).Nodup := (rise_greatest st.task).imp fun h => Nat.ne_of_lt h
      have := nodup_length (S := List.range (2 ^ st.task.facts)) nd2 fun x hx => List.mem_range.mpr (Nat.lt_of_le_of_lt (within_le ((mem_greatest ho.t).mp hx).1.1) ho.t.goal)
      rw [List.length_range] at this
      have := two32 ho.t.n
      omega
    refine ⟨_, rfl, p3, p2, _, _, rfl, rfl, upd_same, Eq.trans (upd_ne n23) hp2, ?_, fun p hp => ?_⟩
    · refine Nat.le_of_lt (small1000 ?_)
      rw [List.length_map]
      show 1 + _ ≤ 1000
      omega
    have p0 := upd_none hp
    have s4 : Same H (upd (upd H2 p3 (.lst [V.int ((lN (Pn14.greatest st.task)).length : Nat)])) p (.lst ([V.int ((lN (Pn14.greatest st.task)).length : Nat)] ++ lN (Pn14.greatest st.task)))) := same_upd (same_upd s3 (s3.free n3)) (s3.free p0.2)
    refine k _ p la lp (hh.same s4) (.inl rfl) (.inl rfl) (.of s4) (s3.free p0.2) ?_
    rw [upd_same, List.length_map]
    show some (HO.lst (V.int ((Pn14.greatest st.task).length : Nat) :: (Pn14.greatest st.task).map fun (n : Nat) => V.int (n : Int))) = some (HO.lst (V.int ((Pn14.greatest st.task).length : Nat) :: ((Pn14.greatest st.task).map fun (n : Nat) => (n : Int)).map V.int))
    rw [List.map_map]
    rfl
end
end Wn

set_option Elab.async false
set_option maxRecDepth 100000
set_option maxHeartbeats 4000000
/-! act, the reader. -/
namespace Wn
open PySem PySem.Spec PyProof.Rows L2
section
variable {P : Program} {w : World} {K : PySem.W.Frag} {mg : Str → Option Value} {base : Heap} {C CA : Addr}
theorem scActM : FnScope ["self", "told"] ["self", "told"] (defScope sActM) := ⟨rfl, rfl, rfl, by decide +kernel, rfl, by decide +kernel, by decide +kernel⟩
theorem five {l : List Nat} (h : l.length = 5) : ∃ p q a d c, l = [p, q, a, d, c] := by
  match l, h with
  | [p, q, a, d, c], _ => exact ⟨p, q, a, d, c, rfl⟩
theorem act_none {n : Nat} {l : List Nat} (h : l.length ≠ 5) : Pn.act? n l = none := by
  match l, h with
  | [], _ => rfl
  | [_], _ => rfl
  | [_, _], _ => rfl
  | [_, _, _], _ => rfl
  | [_, _, _, _], _ => rfl
  | [_, _, _, _, _], h => exact absurd rfl h
  | _ :: _ :: _ :: _ :: _ :: _ :: _, _ => rfl
theorem right_is (n p q a d c : Nat) : (Pn.Act.mk p q a d c).right n = ((([p, q, a, d] : List Nat).all fun x => decide (x < 2 ^ n)) && isCost c) := by
  rw [Bool.eq_iff_iff, right_iff, List.all_cons, List.all_cons, List.all_cons, List.all_cons, List.all_nil, isCost]
  simp only [Bool.and_eq_true, decide_eq_true_eq, Bool.and_true]
  exact ⟨fun h => ⟨⟨h.1, h.2.1, h.2.2.1, h.2.2.2.1⟩, h.2.2.2.2⟩, fun h => ⟨h.1.1, h.1.2.1, h.1.2.2.1, h.1.2.2.2, h.2⟩⟩
theorem ok_actM {f fF fC fI : Addr} {fd fdF fdC fdI : FuncData} (F : Fun K "act" "House.act" sActM f fd) (T : TxH K C) (na : Cn mg "NOT_AS_TOLD" (-1)) (fu : Cn mg "ACTS_ARE_FULL" (-7)) (ma : Cn mg "MOST_ACTS" 8) (an : Cn mg "ACT_NUMBERS" 5) (len : mg "len" = none)
    (GF : FnOk P w K mg base CX0 1 fF fdF ["sets", "fact_count"] (spAre K)) (bF : Binds K fdF ["sets", "fact_count"] []) (mF : mg "are_fact_sets" = some (.ref fF)) (kF : PySem.W.keepIn K (.ref fF) = true)
    (GC : FnOk P w K mg base CX0 1 fC fdC ["number"] spIsCost) (bC : Binds K fdC ["number"] []) (mC : mg "is_cost" = some (.ref fC)) (kC : PySem.W.keepIn K (.ref fC) = true)
    (M : Mk K CA fI) (GI : FnOk P w K mg base CX0 1 fI fdI ["self", "needs", "bars", "brings", "takes", "cost"] (spActInit CA)) (bI : Binds K fdI ["self", "needs", "bars", "brings", "takes", "cost"] []) (mA : mg "Act" = some (.ref CA)) : FnOk P w K mg base CX0 3 f fd ["self", "told"] (spActM K C CA) := by
  refine F.ok scActM (fun vs H Q E h => ?_) (fun cdv A outer s H vs Q E hr h => ?_)
  · obtain ⟨h, la, lp, b, s, l, rfl, _⟩ := h
    rfl
  · obtain ⟨h, la, lp, b, st, l, rfl, hh, ho, hl, hlen, k⟩ := h
    have hr1 : Room 1 _ := hr.mono (by decide)
    refine ⟨_, pss_cons (ps_if (pt_cmpR op_eq (pe_callB call_len_seq (by rfl) len PySem.boot_len (pa_cons (pe_fld (pv 0) rfl) pa_nil)) (pe_cn ma) (nomark _)) (pss_one (ps_ret (pe_lst (pa_cons (pe_cn fu) pa_nil)))) pss_nil)
      (pss_cons (ps_if (PW.pt (pw_or (pt_cmpR op_ne (pe_callB call_len_seq (by rfl) len PySem.boot_len (pa_cons (pv 1) pa_nil)) (pe_cn an) (nomark _))
          (pw_or (pt_not (pt_val (pe_call GF hr1 rfl mF kF bF .nil pass0 (pa_cons (pe_slice sl_list (pv 1) po_none (po_some pe_int)) (pa_cons (pe_fld (pv 0) rfl) pa_nil)))))
          (pw_or1 (pt_not (pt_val (pe_call GC hr1 rfl mC kC bC .nil pass0 (pa_cons (pe_ix ix_list (pv 1) pe_int (fun _ _ => rfl)) pa_nil))))))))
          (pss_one (ps_ret (pe_lst (pa_cons (pe_cn na) pa_nil)))) pss_nil)
      (pss_cons (ps_expr (pe_bm PySem.F.plainAttrs_list PySem.F.slot_list_append PySem.F.type_list_append mt_append (pe_fld (pv 0) rfl) (pa_cons (pe_make M GI hr rfl mA bI .nil pass0
          (pa_cons (pe_ix ix_list (pv 1) pe_int (fun _ _ => rfl)) (pa_cons (pe_ix ix_list (pv 1) pe_int (fun _ _ => rfl)) (pa_cons (pe_ix ix_list (pv 1) pe_int (fun _ _ => rfl)) (pa_cons (pe_ix ix_list (pv 1) pe_int (fun _ _ => rfl)) (pa_cons (pe_ix ix_list (pv 1) pe_int (fun _ _ => rfl)) pa_nil)))))) pa_nil)))
      (pss_one (ps_ret (pe_lst (pa_cons (pe_op op_sub (pe_callB call_len_seq (by rfl) len PySem.boot_len (pa_cons (pe_fld (pv 0) rfl) pa_nil)) pe_int) pa_nil)))))), ?_⟩
    obtain ⟨dx, ps, h1, h2, h3, h4, h5⟩ := id hh
    have pl : ps.length = st.task.acts.length := h4.1
    have few := ho.t.few
    refine ⟨_, rfl, h, C, dx, _, _, rfl, h1, T.cl, T.n4, hF_acts _ _ _, la, _, rfl, .inl (SqL.of h2), rfl, _, rfl, ?_⟩
    rw [List.length_map, pl]
    have e8 : decide (V.int ((st.task.acts.length : Nat) : Int) = V.int 8) = decide (st.task.acts.length = 8) := eqInt _ 8
    rw [e8]
    have hstep : Pn14.step st (.act l) = (if st.task.acts.length = Pn14.ACTS then (st, Pn14.ok (-7)) else match Pn.act? st.task.facts l with
      | none => (st, Pn14.ok (-1))
      | some a => ({ st with task := { st.task with acts := st.task.acts ++ [a] } }, Pn14.ok (st.task.acts.length : Nat))) := rfl
    by_cases c8 : st.task.acts.length = 8
    · rw [decide_eq_true c8]
      rw [hstep, if_pos (show st.task.acts.length = Pn14.ACTS from c8)] at k
      refine iteT ⟨(by show 1 ≤ sizeLine; decide), fun p hp => ?_⟩
      exact k.no hh (same_new hp) hp upd_same
    · rw [decide_eq_false c8]
      rw [hstep, if_neg (show ¬ st.task.acts.length = Pn14.ACTS from c8)] at k
      have no : ∀ (H1 : Hp), Same H H1 → Pn.act? st.task.facts l = none → tRet (tLst (tCons (tC (.int (-1))) tNil)) { nx := fun _ H' => Q .non H', rt := Q } (start ["self", "told"] [.ref h, .ref b]) H1 := by
        intro H1 s1 c
        refine ⟨(by show 1 ≤ sizeLine; decide), fun p hp => ?_⟩
        rw [c] at k
        exact After.no k hh (same_upd s1 (s1.free hp)) (s1.free hp) upd_same
      refine iteF ⟨_, rfl, b, _, rfl, .inl hl, rfl, _, rfl, ?_⟩
      rw [List.length_map]
      have e5 : (!decide (V.int ((l.length : Nat) : Int) = V.int 5)) = decide (l.length ≠ 5) := neInt _ 5
      rw [e5]
      by_cases c5 : l.length ≠ 5
      · rw [decide_eq_true c5]
        exact iteT (iteT (no H (Same.refl _) (act_none c5)))
      · rw [decide_eq_false c5]
        obtain ⟨p, q, a, d, c, rfl⟩ := five (Classical.not_not.mp c5)
        refine iteF ⟨_, rfl, _, rfl, b, _, rfl, hl, fun r hr0 => ?_⟩
        have nhr : h ≠ r := ne_of_none h1 hr0
        have ecut : cutV (lN [p, q, a, d, c]) Option.none (some 4) = lN [p, q, a, d] := rfl
        rw [ecut]
        refine ⟨_, rfl, h, C, dx, _, _, rfl, Eq.trans (upd_ne nhr) h1, T.cl, T.n1, hF_count _ _ _, r, [p, q, a, d], st.task.facts, rfl, SqL.of upd_same, (by show 4 ≤ 1000; decide), fun H1 s0 => ⟨_, rfl, ?_⟩⟩
        have s1 : Same H H1 := (same_new hr0).trans s0
        have hact : Pn.act? st.task.facts [p, q, a, d, c] = if (Pn.Act.mk p q a d c).right st.task.facts = true then some (Pn.Act.mk p q a d c) else none := rfl
        rw [right_is] at hact
        cases c3 : (([p, q, a, d] : List Nat).all fun x => decide (x < 2 ^ st.task.facts)) with
        | false =>
          rw [c3, Bool.false_and, if_neg Bool.false_ne_true] at hact
          exact iteT (iteT (no H1 s1 hact))
        | true =>
          rw [c3, Bool.true_and] at hact
          refine iteF ⟨_, rfl, b, _, _, _, rfl, rfl, s1.seq hl, rfl, c, rfl, _, rfl, ?_⟩
          cases c4 : isCost c with
          | false =>
            rw [c4, if_neg Bool.false_ne_true] at hact
            exact iteT (no H1 s1 hact)
          | true =>
            rw [c4, if_pos rfl] at hact
            rw [hact] at k
            have g1 := s1 _ _ h1
            have g2 := s1 _ _ h2
            have gl := s1.seq hl
            refine iteF ⟨_, rfl, h, C, dx, _, _, rfl, g1, T.cl, T.n4, hF_acts _ _ _, .inl ⟨rfl, _, SqL.of g2⟩, ?_⟩
            refine ⟨_, rfl, b, _, _, _, rfl, rfl, gl, rfl, _, rfl, b, _, _, _, rfl, rfl, gl, rfl, _, rfl, b, _, _, _, rfl, rfl, gl, rfl, _, rfl, b, _, _, _, rfl, rfl, gl, rfl, _, rfl, b, _, _, _, rfl, rfl, gl, rfl, ?_⟩
            intro x dy nx ndy nex
            refine ⟨x, dy, ⟨p, q, a, d, c⟩, rfl, upd_same, fun H2 J kp => ⟨rfl, ?_⟩⟩
            have s2 : Same H1 H2 := Same.made nx ndy kp
            have s3 : Same H H2 := s1.trans s2
            have f2 := s2 _ _ g2
            refine ⟨la, _, _, rfl, rfl, f2, small1000 (by rw [List.length_map, pl]; omega), ?_⟩
            have nhl : h ≠ la := ne_of h1 h2 (by intro z; cases z)
            refine ⟨_, rfl, h, C, dx, _, _, rfl, Eq.trans (upd_ne nhl) (s2 _ _ g1), T.cl, T.n4, hF_acts _ _ _, la, _, rfl, .inl (SqL.of upd_same), _, _, rfl, rfl, (by show 1 ≤ sizeLine; decide), fun r2 hr2 => ?_⟩
            have o0 := upd_none hr2
            have nlr : la ≠ r2 := fun z => o0.1 z.symm
            have fr : ∀ b' o (u : List V), H b' = some o → b' ≠ la → upd (upd H2 la (.lst (ps.map V.ref ++ [.ref x]))) r2 (.lst u) b' = some o := fun b' o u e hb => by
              have e1 := s3 _ _ e
              rw [upd_ne (ne_of_none e1 o0.2), upd_ne hb]
              exact e1
            obtain ⟨dz, J⟩ := J
            have nxl : x ≠ la := fun z => by
              rw [z, g2] at nx
              cases nx
            refine k _ r2 la lp ⟨dx, ps ++ [x], fr _ _ _ h1 nhl, ?_, fr _ _ _ h3 h5.symm, ⟨?_, fun i p' e' => ?_⟩, h5⟩ (.inl rfl) (.inl rfl) (fun b o e _ hb => fr b o _ e hb) (s3.free o0.2) ?_
            · rw [upd_ne nlr, upd_same, List.map_append]
              rfl
            · rw [List.length_append, List.length_append, pl]
              rfl
            · by_cases hi : i < ps.length
              · rw [List.getElem?_append_left hi] at e'
                obtain ⟨a', ea, dw, hw⟩ := h4.2 i p' e'
                refine ⟨a', ?_, dw, fr _ _ _ hw (ne_of hw h2 (by intro z; cases z))⟩
                show (st.task.acts ++ [Pn.Act.mk p q a d c])[i]? = some a'
                rw [List.getElem?_append_left (by rw [← pl]; exact hi)]
                exact ea
              · have hi' : i < (ps ++ [x]).length := (List.getElem?_eq_some_iff.mp e').1
                rw [List.length_append, List.length_singleton] at hi'
                have ei : i = ps.length := by omega
                subst ei
                rw [List.getElem?_append_right (Nat.le_refl _), Nat.sub_self] at e'
                have ex : x = p' := Option.some.inj e'
                subst ex
                refine ⟨⟨p, q, a, d, c⟩, ?_, dz, ?_⟩
                · show (st.task.acts ++ [Pn.Act.mk p q a d c])[ps.length]? = _
                  rw [pl, List.getElem?_append_right (Nat.le_refl _), Nat.sub_self]
                  rfl
                · rw [upd_ne (ne_of_none J o0.2), upd_ne nxl]
                  exact J
            · rw [upd_same]
              have el : ((ps.map V.ref ++ [V.ref x]).length : Int) - 1 = ((st.task.acts.length : Nat) : Int) := by
                rw [List.length_append, List.length_map, pl, List.length_singleton]
                omega
              show some (HO.lst [V.int (((ps.map V.ref ++ [V.ref x]).length : Int) - 1)]) = some (HO.lst [V.int ((st.task.acts.length : Nat) : Int)])
              rw [el]
end
/-! ### the reader -/
abbrev sReader : Stmt := top 43
abbrev sRInit : Stmt := inClass sReader 0
abbrev sMore : Stmt := inClass sReader 1
abbrev sNumber : Stmt := inClass sReader 2
abbrev sRow : Stmt := inClass sReader 3
def rF (a : Addr) (i : Nat) : List (Str × V) := [("calls", .ref a), ("place", vN i)]
def rK : List Str := ["calls", "place"]
theorem rF_calls (a : Addr) (i : Nat) : (rF a i).lookup ("calls" : Str) = some (.ref a) := lk_ix 0 (show rK.findIdx (· == ("calls" : Str)) = 0 by decide +kernel) rfl
theorem rF_place (a : Addr) (i : Nat) : (rF a i).lookup ("place" : Str) = some (vN i) := lk_ix 1 (show rK.findIdx (· == ("place" : Str)) = 1 by decide +kernel) rfl
theorem rF_no (a : Addr) (i : Nat) {m : Str} (h : rK.contains m = false) : (rF a i).lookup m = none := lk_no (show ((rF a i).map Prod.fst).contains m = false from h)
structure TxR (K : PySem.W.Frag) (C : Addr) : Prop where
  cl : Cls K C
  n1 : NoAttr K C "calls"
  n2 : NoAttr K C "place"
def ReaderAt (C : Addr) (H : Hp) (r a : Addr) (i : Nat) : Prop := ∃ dx, H r = some (.ins C dx (rF a i))
def But (H H' : Hp) (r : Addr) : Prop := ∀ b o, H b = some o → b ≠ r → H' b = some o
def spRInit (C : Addr) : Sp := fun vs H Q _ => ∃ (p dx a : Addr), vs = [.ref p, .ref a] ∧ H p = some (.ins C dx []) ∧ ∀ H' : Hp, ReaderAt C H' p a 0 → But H H' p → Q .non H'
def spMore (K : PySem.W.Frag) (C : Addr) : Sp := fun vs H Q _ => ∃ (r a : Addr) (i : Nat) (ns : List Int), vs = [.ref r] ∧ ReaderAt C H r a i ∧ SqL K H a (ns.map V.int) ∧ Q (.bl (decide (i < ns.length))) H
def spNumber (K : PySem.W.Frag) (C : Addr) : Sp := fun vs H Q _ => ∃ (r a : Addr) (i : Nat) (ns : List Int) (z : Int), vs = [.ref r] ∧ ReaderAt C H r a i ∧ SqL K H a (ns.map V.int) ∧ ns[i]? = some z ∧ ∀ H' : Hp, ReaderAt C H' r a (i + 1) → But H H' r → Q (.int z) H'
def spRow (K : PySem.W.Frag) (C : Addr) : Sp := fun vs H Q _ => ∃ (r a : Addr) (i n : Nat) (ns : List Int), vs = [.ref r] ∧ ReaderAt C H r a i ∧ SqL K H a (ns.map V.int) ∧ ns[i]? = some (n : Int) ∧ i + 1 + n ≤ ns.length ∧
  ∀ (H' : Hp) (p : Addr), ReaderAt C H' r a (i + 1 + n) → But H H' r → H p = none → H' p = some (.lst (((ns.drop (i + 1)).take n).map V.int)) → Q (.ref p) H'
theorem But.seq {K : PySem.W.Frag} {H H' : Hp} {r a C dx : Addr} {fs : List (Str × V)} {xs : List V} (e : But H H' r) (hr : H r = some (.ins C dx fs)) (h : SqL K H a xs) : SqL K H' a xs := by
  rcases h with (h | ⟨o, h⟩) | h
  · exact .inl (.inl (e _ _ h (ne_of h hr (by intro z; cases z))))
  · exact .inl (.inr ⟨o, e _ _ h (ne_of h hr (by intro z; cases z))⟩)
  · exact .inr h
section
variable {P : Program} {w : World} {K : PySem.W.Frag} {mg : Str → Option Value} {base : Heap} {C : Addr}
theorem scRInit : FnScope ["self", "calls"] ["self", "calls"] (defScope sRInit) := ⟨rfl, rfl, rfl, by decide +kernel, rfl, by decide +kernel, by decide +kernel⟩
theorem ok_rInit {f : Addr} {fd : FuncData} (F : Fun K "__init__" "Reader.__init__" sRInit f fd) (T : TxR K C) : FnOk P w K mg base CX0 1 f fd ["self", "calls"] (spRInit C) := by
  refine F.ok scRInit (fun vs H Q E h => ?_) (fun cdv A outer s H vs Q E hr h => ?_)
  · obtain ⟨p, dx, a, rfl, _⟩ := h
    rfl
  · obtain ⟨p, dx, a, rfl, hp, k⟩ := h
    refine ⟨_, pss_cons (ps_fld (pv 0) (pv 1) rfl) (pss_one (ps_fld (pv 0) pe_int rfl)), ?_⟩
    refine ⟨_, rfl, _, rfl, p, C, dx, [], rfl, hp, T.cl, T.n1, (by show 0 < 1000; decide), ?_⟩
    refine ⟨_, rfl, p, C, dx, _, rfl, upd_same, T.cl, T.n2, (by show 1 < 1000; decide), ?_⟩
    rw [put_end (show ((["calls"] : List Str)).contains "place" = false by decide +kernel)]
    exact k _ ⟨dx, upd_same⟩ fun b o e hb => by
      rw [upd_ne hb, upd_ne hb]
      exact e
theorem scMore : FnScope ["self"] ["self"] (defScope sMore) := ⟨rfl, rfl, rfl, by decide +kernel, rfl, by decide +kernel, by decide +kernel⟩
theorem ok_more {f : Addr} {fd : FuncData} (F : Fun K "has_more" "Reader.has_more" sMore f fd) (T : TxR K C) (len : mg "len" = none) : FnOk P w K mg base CX0 1 f fd ["self"] (spMore K C) := by
  refine F.ok scMore (fun vs H Q E h => ?_) (fun cdv A outer s H vs Q E hr h => ?_)
  · obtain ⟨r, a, i, ns, rfl, _⟩ := h
    rfl
  · obtain ⟨r, a, i, ns, rfl, ⟨dx, hr0⟩, ha, k⟩ := h
    refine ⟨_, pss_one (ps_ret (pe_cmpR op_lt (pe_fld (pv 0) rfl) (pe_callB call_len_seq (by rfl) len PySem.boot_len (pa_cons (pe_fld (pv 0) rfl) pa_nil)) (nomark _))), ?_⟩
    refine ⟨_, rfl, r, C, dx, _, _, rfl, hr0, T.cl, T.n2, rF_place _ _, _, rfl, r, C, dx, _, _, rfl, hr0, T.cl, T.n1, rF_calls _ _, a, _, rfl, .inl ha, _, _, rfl, rfl, ?_⟩
    have e : decide ((i : Int) < ((ns.map V.int).length : Int)) = decide (i < ns.length) := by
      rw [List.length_map, Bool.eq_iff_iff, decide_eq_true_eq, decide_eq_true_eq]
      omega
    show Q (V.bl (decide ((i : Int) < ((ns.map V.int).length : Int)))) H
    rw [e]
    exact k
theorem scNumber : FnScope ["self"] ["self"] (defScope sNumber) := ⟨rfl, rfl, rfl, by decide +kernel, rfl, by decide +kernel, by decide +kernel⟩
theorem ok_number {f : Addr} {fd : FuncData} (F : Fun K "number" "Reader.number" sNumber f fd) (T : TxR K C) : FnOk P w K mg base CX0 1 f fd ["self"] (spNumber K C) := by
  refine F.ok scNumber (fun vs H Q E h => ?_) (fun cdv A outer s H vs Q E hr h => ?_)
  · obtain ⟨r, a, i, ns, z, rfl, _⟩ := h
    rfl
  · obtain ⟨r, a, i, ns, z, rfl, ⟨dx, hr0⟩, ha, hz, k⟩ := h
    refine ⟨_, pss_cons (ps_fld (pv 0) (pe_op op_add (pe_fld (pv 0) rfl) pe_int) rfl) (pss_one (ps_ret (pe_ix ix_list (pe_fld (pv 0) rfl) (pe_op op_sub (pe_fld (pv 0) rfl) pe_int) (fun _ _ => rfl)))), ?_⟩
    refine ⟨_, rfl, r, C, dx, _, _, rfl, hr0, T.cl, T.n2, rF_place _ _, _, _, rfl, rfl, _, rfl, r, C, dx, _, rfl, hr0, T.cl, T.n2, (by show 2 < 1000; decide), ?_⟩
    rw [put_ix 1 (show rK.findIdx (· == ("place" : Str)) = 1 by decide +kernel) (by show 1 < 2; decide)]
    have bt : But H (upd H r (.ins C dx (rF a (i + 1)))) r := fun b o e hb => by
      rw [upd_ne hb]
      exact e
    refine ⟨_, rfl, r, C, dx, _, _, rfl, upd_same, T.cl, T.n1, rF_calls a (i + 1), _, rfl, r, C, dx, _, _, rfl, upd_same, T.cl, T.n2, rF_place a (i + 1), _, _, rfl, rfl, a, _, _, .int z, rfl, rfl, bt.seq hr0 ha, at_of (j := i) (by show (((i + 1 : Nat) : Int) - 1) = (i : Int); omega) (by rw [List.getElem?_map, hz]; rfl), ?_⟩
    exact k _ ⟨dx, upd_same⟩ bt
theorem scRow : FnScope ["self", "length", "start"] ["self"] (defScope sRow) := ⟨rfl, rfl, rfl, by decide +kernel, rfl, by decide +kernel, by decide +kernel⟩
theorem cut_is (xs : List V) (i n : Nat) (h : i + n ≤ xs.length) : cutV xs (some (i : Int)) (some ((i : Int) + (n : Int))) = (xs.drop i).take n := by
  have e1 : HT.sIx xs.length 0 (some (i : Int)) = i := by
    rw [HT.sIx_nat]
    omega
  have e2 : HT.sIx xs.length xs.length (some ((i : Int) + (n : Int))) = i + n := by
    rw [← Int.natCast_add, HT.sIx_nat]
    omega
  unfold cutV
  rw [e1, e2, Nat.add_sub_cancel_left]
theorem ok_row {f fN : Addr} {fd fdN : FuncData} (F : Fun K "row" "Reader.row" sRow f fd) (T : TxR K C) (GN : FnOk P w K mg base CX0 1 fN fdN ["self"] (spNumber K C)) (bN : Binds K fdN ["self"] []) (mN : Meth K C "number" fN) : FnOk P w K mg base CX0 2 f fd ["self"] (spRow K C) := by
  refine F.ok scRow (fun vs H Q E h => ?_) (fun cdv A outer s H vs Q E hr h => ?_)
  · obtain ⟨r, a, i, n, ns, rfl, _⟩ := h
    rfl
  · obtain ⟨r, a, i, n, ns, rfl, hr0, ha, hz, hle, k⟩ := h
    refine ⟨_, pss_cons (ps_set (i := 1) scRow.nd rfl (Or.inl rfl) (pe_meth0 (pv 0) T.cl mN GN hr bN .nil pass0)) (pss_cons (ps_set (i := 2) scRow.nd rfl (Or.inl rfl) (pe_fld (pv 0) rfl))
      (pss_cons (ps_fld (pv 0) (pe_op op_add (pv 2) (pv 1)) rfl) (pss_one (ps_ret (pe_slice sl_list (pe_fld (pv 0) rfl) (po_some (pv 2)) (po_some (pe_fld (pv 0) rfl))))))), ?_⟩
    obtain ⟨dx, hr1⟩ := id hr0
    refine ⟨_, rfl, r, dx, _, rfl, hr1, rF_no _ _ (by decide +kernel), r, a, i, ns, _, rfl, hr0, ha, hz, fun H1 hr2 b1 => ?_⟩
    obtain ⟨dx2, hr3⟩ := hr2
    refine ⟨_, rfl, r, C, dx2, _, _, rfl, hr3, T.cl, T.n2, rF_place _ _, ?_⟩
    refine ⟨_, rfl, _, rfl, _, _, rfl, rfl, _, rfl, r, C, dx2, _, rfl, hr3, T.cl, T.n2, (by show 2 < 1000; decide), ?_⟩
    rw [put_ix 1 (show rK.findIdx (· == ("place" : Str)) = 1 by decide +kernel) (by show 1 < 2; decide)]
    have bt : But H (upd H1 r (.ins C dx2 (rF a (i + 1 + n)))) r := fun b o e hb => by
      rw [upd_ne hb]
      exact b1 b o e hb
    refine ⟨_, rfl, r, C, dx2, _, _, rfl, upd_same, T.cl, T.n1, rF_calls a (i + 1 + n), _, rfl, _, rfl, _, rfl, r, C, dx2, _, _, rfl, upd_same, T.cl, T.n2, rF_place a (i + 1 + n), _, rfl, a, _, rfl, bt.seq hr1 ha, fun p hp => ?_⟩
    have p0 := upd_none hp
    have hpH : H p = Option.none := by
      cases e : H p with
      | none => rfl
      | some o =>
        have := b1 p o e p0.1
        rw [p0.2] at this
        cases this
    refine k _ p ⟨dx2, ?_⟩ (fun b o e hb => ?_) hpH ?_
    · rw [upd_ne (fun z => p0.1 z.symm), upd_same]
      rfl
    · rw [upd_ne (ne_of_none e hpH)]
      exact bt b o e hb
    · rw [upd_same]
      have ec : cutV (ns.map V.int) (some ((i + 1 : Nat) : Int)) (some (((i + 1 : Nat) : Int) + (n : Int))) = ((ns.drop (i + 1)).take n).map V.int := by
        rw [cut_is _ _ _ (by rw [List.length_map]; exact hle), List.map_take, List.map_drop]
      exact congrArg (fun l => some (HO.lst l)) ec
end
end Wn

set_option Elab.async false
set_option maxRecDepth 100000
set_option maxHeartbeats 4000000
/-! all_steps, cheapest_costs, costs_from, costs_to. -/
namespace Wn
open PySem PySem.Spec PyProof.Rows L2
abbrev sAllSteps : Stmt := top 11
abbrev sCheapest : Stmt := top 12
abbrev sCostsFrom : Stmt := top 13
abbrev sCostsTo : Stmt := top 14
/-! a dict of numbers -/
def kvC (D : List (Nat × Nat)) : List (Key × V) := D.map fun p => (Sum.inl (p.1 : Int), vN p.2)
theorem kvC_val : ∀ (D : List (Nat × Nat)) (s : Nat), valV (kvC D) (Sum.inl (s : Int)) = (lk D s).map vN
  | [], s => rfl
  | p :: D, s => by
    rw [show kvC (p :: D) = (Sum.inl (p.1 : Int), vN p.2) :: kvC D from rfl]
    by_cases c : p.1 = s
    · rw [valV_pos (by rw [c]), lk_pos c]
      rfl
    · rw [valV_neg (fun z : (Sum.inl (p.1 : Int) : Key) = Sum.inl (s : Int) => c (by injection z with z; omega)), lk_neg c, kvC_val D s]
theorem kvC_put (D : List (Nat × Nat)) (s v : Nat) : putK (kvC D) (Sum.inl (s : Int)) (vN v) = kvC (pt D s v) := by
  unfold putK pt
  rw [valV_any, kvC_val, Option.isSome_map]
  by_cases c : (lk D s).isSome = true
  · rw [if_pos c, if_pos c]
    unfold kvC
    rw [List.map_map, List.map_map]
    refine List.map_congr_left fun p _ => ?_
    show (if (Sum.inl (p.1 : Int) : Key) = Sum.inl (s : Int) then ((Sum.inl (p.1 : Int) : Key), vN v) else (Sum.inl (p.1 : Int), vN p.2)) = (Sum.inl ((if p.1 = s then (p.1, v) else p).1 : Int), vN (if p.1 = s then (p.1, v) else p).2)
    by_cases e : p.1 = s
    · rw [if_pos e, if_pos (by rw [e])]
    · rw [if_neg e, if_neg (fun z : (Sum.inl (p.1 : Int) : Key) = Sum.inl (s : Int) => e (by injection z with z; omega))]
  · rw [if_neg c, if_neg c]
    unfold kvC
    rw [List.map_append]
    rfl
theorem kvC_length (D : List (Nat × Nat)) : (kvC D).length = D.length := List.length_map ..
/-! a list of steps -/
def TripAt (p : Stp) (v : V) (H : Hp) : Prop := ∃ t, v = .ref t ∧ H t = some (.tup [vN p.1, vN p.2.1, vN p.2.2])
theorem Rows.keepT {L : List Stp} {ts : List V} {H H' : Hp} (h : Rows TripAt L ts H) (k : ∀ b xs, H b = some (.tup xs) → H' b = some (.tup xs)) : Rows TripAt L ts H' :=
  ⟨h.1, fun i p v e1 e2 => by
    obtain ⟨t, rfl, ht⟩ := h.2 i p v e1 e2
    exact ⟨t, rfl, k _ _ ht⟩⟩
theorem Rows.sameT {L : List Stp} {ts : List V} {H H' : Hp} (h : Rows TripAt L ts H) (s : Same H H') : Rows TripAt L ts H' := h.keepT fun b _ e => s b _ e
def spAllSteps (K : PySem.W.Frag) (C : Addr) : Sp := fun vs H Q _ => ∃ (t : Tk) (la : Addr) (ps : List Addr), vs = [.ref la, vN t.facts] ∧ Ok t ∧ SqL K H la (ps.map V.ref) ∧ ActsAt C H ps t.acts ∧
  ∀ (H' : Hp) (p : Addr) (L : List Stp) (ts : List V), Same H H' → H p = none → H' p = some (.lst ts) → Rows TripAt L ts H' → Steps t L → L.length ≤ 256 → Q (.ref p) H'
section
variable {P : Program} {w : World} {K : PySem.W.Frag} {mg : Str → Option Value} {base : Heap} {C : Addr}
theorem scAllSteps : FnScope ["acts", "fact_count", "found", "state", "act"] ["acts", "fact_count"] (defScope sAllSteps) := ⟨rfl, rfl, rfl, by decide +kernel, rfl, by decide +kernel, by decide +kernel⟩
theorem ok_allSteps {f fM fB : Addr} {fd fdM fdB : FuncData} (F : Fun K "all_steps" "all_steps" sAllSteps f fd) (T : TxA K C) (range : mg "range" = none)
    (GM : FnOk P w K mg base CX0 2 fM fdM ["self", "state"] (spMay C)) (bM : Binds K fdM ["self", "state"] []) (mM : Meth K C "may_be_done" fM)
    (GB : FnOk P w K mg base CX0 1 fB fdB ["self", "state"] (spBehind C)) (bB : Binds K fdB ["self", "state"] []) (mB : Meth K C "state_behind" fB) : FnOk P w K mg base CX0 3 f fd ["acts", "fact_count"] (spAllSteps K C) := by
  refine F.ok scAllSteps (fun vs H Q E h => ?_) (fun cdv A outer s H vs Q E hr h => ?_)
  · obtain ⟨t, la, ps, rfl, _⟩ := h
    rfl
  · obtain ⟨t, la, ps, rfl, o, hla, hA, k⟩ := h
    refine ⟨_, pss_cons (ps_set (i := 2) scAllSteps.nd rfl (Or.inl rfl) (pe_lst pa_nil))
      (pss_cons (ps_for PassesOwn.never rfl (pi_range1 rfl range (pa_cons (pe_op op_shl pe_int (pv 1)) pa_nil)) (pg_name (i := 3) scAllSteps.nd rfl (Or.inl rfl))
        (pss_one (ps_for PassesOwn.never rfl (pi_list (pv 0)) (pg_name (i := 4) scAllSteps.nd rfl (Or.inl rfl))
          (pss_one (ps_if (pt_val (pe_meth (pv 4) T.cl mM GM hr bM .nil pass0 (pa_cons (pv 3) pa_nil)))
            (pss_one (ps_expr (pe_bm PySem.F.plainAttrs_list PySem.F.slot_list_append PySem.F.type_list_append mt_append (pv 2)
              (pa_cons (pe_tup (pa_cons (pv 3) (pa_cons (pe_meth (pv 4) T.cl mB GB (hr.mono (by decide)) bB .nil pass0 (pa_cons (pv 3) pa_nil)) (pa_cons (pe_fld (pv 4) rfl) pa_nil)))) pa_nil)))) pss_nil)))))
      (pss_one (ps_ret (pv 2)))), ?_⟩
    refine ⟨Nat.zero_le _, fun r hr0 => ?_⟩
    have p2 := two32 o.n
    have pl := hA.1
    have e2 : ((1 : Int) * 2 ^ ((t.facts : Int)).toNat).toNat = 2 ^ t.facts := by
      rw [shl1]
      exact Int.toNat_natCast _
    have on := o.n
    refine ⟨_, rfl, _, _, rfl, rfl, ⟨by omega, by omega, by decide⟩, _, rfl, ?_, ?_, ?_⟩
    · rw [shl1]
      omega
    · rw [shl1]
      omega
    rw [e2]
    refine for_range (n := 2 ^ t.facts) (fun i σ H' => ∃ (ts : List V) (L : List Stp) (v3 v4 : Option V), σ = [some (.ref la), some (vN t.facts), some (.ref r), v3, v4] ∧ Same H H' ∧ H' r = some (.lst ts) ∧ Rows TripAt L ts H' ∧ L.length ≤ 8 * i ∧
      ∀ a b c, (a, b, c) ∈ L ↔ a < i ∧ ∃ k, t.can a k = true ∧ b = (t.act k).then_ a ∧ c = (t.act k).cost) ⟨[], [], none, none, rfl, same_new hr0, upd_same, Rows.nil, Nat.zero_le _, fun a b c => ⟨fun h => (by cases h), fun h => absurd h.1 (Nat.not_lt_zero _)⟩⟩ ?_ ?_
    · rintro i σ H' hi ⟨ts, L, v3, v4, rfl, s1, hts, hR, hL, hm⟩
      rw [show (0 : Int) + (i : Int) = (i : Int) by omega]
      refine ⟨_, rfl, la, rfl, ⟨_, s1.seq hla⟩, for_list (K := K) (a := la) (xs := ps.map V.ref) (fun j σ H' => ∃ (ts : List V) (L : List Stp) (v4 : Option V), σ = [some (.ref la), some (vN t.facts), some (.ref r), some (vN i), v4] ∧ Same H H' ∧ H' r = some (.lst ts) ∧ Rows TripAt L ts H' ∧ L.length ≤ 8 * i + j ∧
        ∀ a b c, (a, b, c) ∈ L ↔ (a < i ∧ ∃ k, t.can a k = true ∧ b = (t.act k).then_ a ∧ c = (t.act k).cost) ∨ (a = i ∧ ∃ k, k < j ∧ t.can a k = true ∧ b = (t.act k).then_ a ∧ c = (t.act k).cost))
        ⟨ts, L, v4, rfl, s1, hts, hR, hL, fun a b c => ?_⟩ (fun j σ' H2 _ ⟨_, _, _, _, q, _⟩ => q.seq hla) ?_ ?_⟩
      · rw [hm]
        refine ⟨.inl, fun h => h.elim id fun h => ?_⟩
        obtain ⟨_, k, hk, _⟩ := h
        exact absurd hk (Nat.not_lt_zero _)
      · rintro j x σ' H2 hx ⟨ts, L, w4, rfl, s2, hts, hR, hL, hm⟩
        obtain ⟨pa, hpa, rfl⟩ := ref_get hx
        obtain ⟨a, ha, dx, hax⟩ := hA.2 j pa hpa
        have hax2 := s2 _ _ hax
        have hjl : j < t.acts.length := (List.getElem?_eq_some_iff.mp ha).1
        have ea : t.act j = a := by
          rw [act_get hjl]
          exact (List.getElem?_eq_some_iff.mp ha).2
        have j8 : t.acts.length ≤ 8 := o.few
        refine ⟨_, rfl, pa, dx, _, rfl, hax2, aF_no a (by decide +kernel), _, rfl, pa, a, i, rfl, ⟨dx, hax2⟩, _, rfl, ?_⟩
        cases em : a.may i with
        | false =>
          refine iteF ⟨ts, L, _, rfl, s2, hts, hR, by omega, fun a' b c => ?_⟩
          rw [hm]
          refine or_congr Iff.rfl (and_congr_right fun e => ?_)
          subst e
          refine ⟨fun ⟨k, hk, h⟩ => ⟨k, by omega, h⟩, fun ⟨k, hk, h⟩ => ⟨k, ?_, h⟩⟩
          by_cases e : k = j
          · subst e
            have := (can_iff.mp h.1).2
            rw [ea, em] at this
            cases this
          · omega
        | true =>
          refine iteT ⟨_, rfl, .inl ⟨rfl, _, SqL.of hts⟩, _, rfl, _, rfl, pa, dx, _, rfl, hax2, aF_no a (by decide +kernel), _, rfl, pa, a, i, rfl, ⟨dx, hax2⟩, _, rfl, pa, C, dx, _, _, rfl, hax2, T.cl, T.n5, aF_cost a, (by show 3 ≤ sizeLine; decide), fun q hq => ?_⟩
          have nrq : r ≠ q := ne_of_none hts hq
          refine ⟨r, _, _, rfl, rfl, Eq.trans (upd_ne nrq) hts, small1000 (by rw [hR.1]; omega), ?_⟩
          have hkeep : ∀ b xs, H2 b = some (.tup xs) → upd (upd H2 q (.tup [vN i, vN (a.then_ i), vN a.cost])) r (.lst (ts ++ [.ref q])) b = some (.tup xs) := fun b xs e => by
            have nbr : b ≠ r := ne_of e hts (by intro z; cases z)
            rw [upd_ne nbr, upd_ne (ne_of_none e hq)]
            exact e
          refine ⟨ts ++ [.ref q], L ++ [(i, a.then_ i, a.cost)], _, rfl, same_upd (same_upd s2 (s2.free hq)) hr0, upd_same, (hR.keepT hkeep).snoc ⟨q, rfl, by rw [upd_ne nrq.symm, upd_same]⟩, by rw [List.length_append, List.length_singleton]; omega, fun a' b c => ?_⟩
          rw [List.mem_append, hm, List.mem_singleton]
          constructor
          · rintro (h | h)
            · exact h.imp id fun ⟨e, k, hk, h⟩ => ⟨e, k, by omega, h⟩
            · cases h
              refine .inr ⟨rfl, j, by omega, can_iff.mpr ⟨hjl, by rw [ea]; exact em⟩, by rw [ea], by rw [ea]⟩
          · rintro (h | ⟨e, k, hk, h1, h2, h3⟩)
            · exact .inl (.inl h)
            · by_cases c : k = j
              · subst c
                rw [ea] at h2 h3
                right
                rw [e, h2, h3, e]
              · exact .inl (.inr ⟨e, k, by omega, h1, h2, h3⟩)
      · rintro σ' H2 ⟨ts, L, w4, rfl, s2, hts, hR, hL, hm⟩
        have j8 : t.acts.length ≤ 8 := o.few
        rw [List.length_map, pl] at hL hm
        refine ⟨ts, L, some (vN i), w4, rfl, s2, hts, hR, by omega, fun a b c => ?_⟩
        rw [hm]
        constructor
        · rintro (h | ⟨e, k, hk, h⟩)
          · exact ⟨by omega, h.2⟩
          · exact ⟨by omega, k, h⟩
        · rintro ⟨h1, k, h⟩
          by_cases c : a = i
          · exact .inr ⟨c, k, (can_iff.mp h.1).1, h⟩
          · exact .inl ⟨by omega, k, h⟩
    · rintro σ' H2 ⟨ts, L, w3, w4, rfl, s2, hts, hR, hL, hm⟩
      exact ⟨_, rfl, k H2 r L ts s2 hr0 hts hR hm (by omega)⟩
/-! ### cheapest_costs -/
def spCheapest (K : PySem.W.Frag) : Sp := fun vs H Q _ => ∃ (N : Nat) (ls la : Addr) (S : List Nat) (L : List Stp) (ts : List V), vs = [.ref ls, .ref la] ∧ SqL K H ls (lN S) ∧ SqL K H la ts ∧ Rows TripAt L ts H ∧ N ≤ 32 ∧ (∀ s ∈ S, s < N) ∧ (∀ a b c, (a, b, c) ∈ L → b < N ∧ c ≤ 1000) ∧
  ∀ (H' : Hp) (p : Addr) (D : List (Nat × Nat)), Same H H' → H p = none → H' p = some (.dK (kvC D)) → Good N S L D → Closed L D → Q (.ref p) H'
theorem scCheapest : FnScope ["starts", "steps", "costs", "state", "better", "ahead", "behind", "cost"] ["starts", "steps"] (defScope sCheapest) := ⟨rfl, rfl, rfl, by decide +kernel, rfl, by decide +kernel, by decide +kernel⟩
/-- the dict so far, all at no cost -/
structure Zero (S T : List Nat) (D : List (Nat × Nat)) : Prop where
  nd : (D.map (·.1)).Nodup
  lt : ∀ x ∈ D.map (·.1), x ∈ S
  val : ∀ p ∈ D, p.2 = 0
  st : ∀ s ∈ T, lk D s = some 0
theorem Zero.put {S T : List Nat} {D : List (Nat × Nat)} (z : Zero S T D) {s : Nat} (hs : s ∈ S) : Zero S (T ++ [s]) (pt D s 0) := by
  have nd := nodup_pt (s := s) (v := 0) z.nd
  refine ⟨nd, fun x hx => ?_, fun p hp => ?_, fun u hu => ?_⟩
  · rcases keys_pt.mp hx with e | e
    · rw [e]
      exact hs
    · exact z.lt x e
  · have e := lk_of_mem (s := p.1) (v := p.2) nd hp
    rw [lk_pt] at e
    by_cases c : p.1 = s
    · rw [if_pos c] at e
      exact (Option.some.inj e).symm
    · rw [if_neg c] at e
      exact z.val _ (lk_some_mem e)
  · rw [lk_pt]
    by_cases c : u = s
    · rw [if_pos c]
    · rw [if_neg c]
      rcases List.mem_append.mp hu with h | h
      · exact z.st u h
      · exact absurd (List.mem_singleton.mp h) c
theorem Zero.good {N : Nat} {S : List Nat} {L : List Stp} {D : List (Nat × Nat)} (z : Zero S S D) (hS : ∀ s ∈ S, s < N) : Good N S L D := by
  refine ⟨z.nd, fun x hx => hS x (z.lt x hx), fun p hp => by rw [z.val p hp]; exact Nat.zero_le _, fun s v e => ?_, z.st⟩
  have m := lk_some_mem e
  rw [show v = 0 from z.val _ m]
  exact .start (z.lt s (List.mem_map.mpr ⟨_, m, rfl⟩))
theorem Zero.length {S T : List Nat} {N : Nat} {D : List (Nat × Nat)} (z : Zero S T D) (hS : ∀ s ∈ S, s < N) : D.length ≤ N := keys_length z.nd fun x hx => hS x (z.lt x hx)
theorem ok_cheapest {f : Addr} {fd : FuncData} (F : Fun K "cheapest_costs" "cheapest_costs" sCheapest f fd) : FnOk P w K mg base CX0 1 f fd ["starts", "steps"] (spCheapest K) := by
  refine F.ok scCheapest (fun vs H Q E h => ?_) (fun cdv A outer s H vs Q E hr h => ?_)
  · obtain ⟨N, ls, la, S, L, ts, rfl, _⟩ := h
    rfl
  · obtain ⟨N, ls, la, S, L, ts, rfl, hls, hla, hR, hN, hS, hL, k⟩ := h
    have hu := hu_of hr
    refine ⟨_, pss_cons (ps_set (i := 2) scCheapest.nd rfl (Or.inl rfl) pe_dnewK)
      (pss_cons (ps_for PassesOwn.never rfl (pi_list (pv 0)) (pg_name (i := 3) scCheapest.nd rfl (Or.inl rfl)) (pss_one (ps_dput hu (pv 2) (pv 3) pe_int rfl)))
      (pss_cons (ps_set (i := 4) scCheapest.nd rfl (Or.inl rfl) pe_bl)
      (pss_cons (ps_while PassesOwn.never (pt_val (pv 4))
        (pss_cons (ps_set (i := 4) scCheapest.nd rfl (Or.inl rfl) pe_bl)
        (pss_one (ps_for PassesOwn.never rfl (pi_list (pv 1)) (pg_tup rfl (pgs_cons (pg_name (i := 5) scCheapest.nd rfl (Or.inl rfl)) (pgs_cons (pg_name (i := 6) scCheapest.nd rfl (Or.inl rfl)) (pgs_cons (pg_name (i := 7) scCheapest.nd rfl (Or.inl rfl)) pgs_nil))))
          (pss_one (ps_if (PW.pt (pw_and (pt_cmp (pc_din hu (pv 5) (pv 2))) (pw_and1 (PW.pt (pw_or (pt_cmp (pc_dnotin hu (pv 6) (pv 2))) (pw_or1 (pt_cmpR op_lt (pe_op op_add (pe_dget hu (pv 2) (pv 5) (fun _ _ => rfl)) (pv 7)) (pe_dget hu (pv 2) (pv 6) (fun _ _ => rfl)) (nomark _))))))))
            (pss_cons (ps_dput hu (pv 2) (pv 6) (pe_op op_add (pe_dget hu (pv 2) (pv 5) (fun _ _ => rfl)) (pv 7)) rfl) (pss_one (ps_set (i := 4) scCheapest.nd rfl (Or.inl rfl) pe_bl))) pss_nil))))))
      (pss_one (ps_ret (pv 2)))))), ?_⟩
    intro d hd
    refine ⟨_, rfl, ls, rfl, ⟨_, (same_new hd).seq hls⟩, for_list (K := K) (a := ls) (xs := lN S) (fun i σ H' => ∃ (D : List (Nat × Nat)) (v3 : Option V), σ = [some (.ref ls), some (.ref la), some (.ref d), v3, none, none, none, none] ∧ Same H H' ∧ H' d = some (.dK (kvC D)) ∧ Zero S (S.take i) D)
      ⟨[], none, rfl, same_new hd, upd_same, ⟨by simp, fun x hx => (by cases hx), fun p hp => (by cases hp), fun s hs => (by rw [List.take_zero] at hs; cases hs)⟩⟩ (fun i σ' H2 _ ⟨_, _, _, q, _⟩ => q.seq hls) ?_ ?_⟩
    · rintro i x σ' H2 hx ⟨D, v3, rfl, s1, hD, z⟩
      obtain ⟨n, hn, rfl⟩ := lN_get hx
      refine ⟨_, rfl, _, rfl, d, _, rfl, DPut.k (k := Sum.inl (n : Int)) hD (small1000 (by rw [kvC_length]; have := z.length hS; omega)), ?_⟩
      rw [show (V.int 0) = vN 0 from rfl, kvC_put]
      refine ⟨_, _, rfl, same_upd s1 hd, upd_same, ?_⟩
      have tk : S.take (i + 1) = S.take i ++ [n] := by
        rw [List.take_add_one, hn]
        rfl
      rw [tk]
      exact z.put (List.mem_of_getElem? hn)
    · rintro σ' H2 ⟨D, v3, rfl, s1, hD, z⟩
      rw [List.length_map, List.take_length] at z
      refine ⟨fun m σ H' => ∃ (D : List (Nat × Nat)) (fl : Bool) (v5 v6 v7 : Option V), m = (if fl = true then phi D + 1 else 0) ∧ σ = [some (.ref ls), some (.ref la), some (.ref d), v3, some (.bl fl), v5, v6, v7] ∧ Same H H' ∧ H' d = some (.dK (kvC D)) ∧ Good N S L D ∧ (fl = false → Closed L D),
        ⟨_, D, true, none, none, none, rfl, rfl, s1, hD, z.good hS, fun e => by cases e⟩, ?_⟩
      rintro m σ H3 ⟨D, fl, v5, v6, v7, rfl, rfl, s3, hD3, g, hc⟩
      refine ⟨_, rfl, _, rfl, ?_⟩
      cases fl with
      | false => exact iteF ⟨_, rfl, k H3 d D s3 hd hD3 g (hc rfl)⟩
      | true =>
        refine iteT ⟨fun σ' H4 => ∃ (D' : List (Nat × Nat)) (fl : Bool) (v5 v6 v7 : Option V), σ' = [some (.ref ls), some (.ref la), some (.ref d), v3, some (.bl fl), v5, v6, v7] ∧ Same H H4 ∧ H4 d = some (.dK (kvC D')) ∧ Good N S L D' ∧ (fl = false → Closed L D') ∧ (fl = true → phi D' < phi D), ?_, ?_⟩
        · rintro σ' H4 ⟨D', fl, w5, w6, w7, rfl, q1, q2, q3, q4, q5⟩
          refine ⟨_, ?_, D', fl, w5, w6, w7, rfl, rfl, q1, q2, q3, q4⟩
          cases fl with
          | false => exact Nat.succ_pos _
          | true => exact Nat.succ_lt_succ (q5 rfl)
        · refine ⟨_, rfl, la, rfl, ⟨_, s3.seq hla⟩, for_list (K := K) (a := la) (xs := ts) (fun i σ H' => ∃ (D' : List (Nat × Nat)) (fl : Bool) (v5 v6 v7 : Option V), σ = [some (.ref ls), some (.ref la), some (.ref d), v3, some (.bl fl), v5, v6, v7] ∧ Same H H' ∧ H' d = some (.dK (kvC D')) ∧ Good N S L D' ∧
            (fl = true → phi D' < phi D) ∧ (fl = false → D' = D ∧ ∀ j a b c, j < i → L[j]? = some (a, b, c) → ∀ x, lk D a = some x → ∃ y, lk D b = some y ∧ y ≤ x + c))
            ⟨D, false, v5, v6, v7, rfl, s3, hD3, g, fun e => (by cases e), fun _ => ⟨rfl, fun j _ _ _ hj => absurd hj (Nat.not_lt_zero _)⟩⟩ (fun i σ' H2 _ ⟨_, _, _, _, _, _, q, _⟩ => q.seq hla) ?_ ?_⟩
          · rintro i x σ' H4 hx ⟨D', fl, w5, w6, w7, rfl, q1, q2, q3, q4, q5⟩
            obtain ⟨⟨a, b, c⟩, hl, q, rfl, hq⟩ := hR.mem hx
            have hq4 := q1 _ _ hq
            have hm : (a, b, c) ∈ L := List.mem_of_getElem? hl
            have stay : ∀ (w5 w6 w7 : Option V), (fl = false → ∀ x, lk D a = some x → ∃ y, lk D b = some y ∧ y ≤ x + c) → ∃ (D' : List (Nat × Nat)) (fl' : Bool) (v5 v6 v7 : Option V), [some (V.ref ls), some (.ref la), some (.ref d), v3, some (.bl fl), w5, w6, w7] = [some (.ref ls), some (.ref la), some (.ref d), v3, some (.bl fl'), v5, v6, v7] ∧ Same H H4 ∧ H4 d = some (.dK (kvC D')) ∧ Good N S L D' ∧
                (fl' = true → phi D' < phi D) ∧ (fl' = false → D' = D ∧ ∀ j a b c, j < i + 1 → L[j]? = some (a, b, c) → ∀ x, lk D a = some x → ∃ y, lk D b = some y ∧ y ≤ x + c) := by
              intro w5 w6 w7 h
              refine ⟨D', fl, w5, w6, w7, rfl, q1, q2, q3, q4, fun e => ⟨(q5 e).1, fun j a' b' c' hj hl' => ?_⟩⟩
              by_cases z : j = i
              · subst z
                rw [hl] at hl'
                cases hl'
                exact h e
              · exact (q5 e).2 j a' b' c' (by omega) hl'
            refine ⟨q, _, rfl, SqT.of hq4, rfl, _, _, rfl, _, _, rfl, _, _, rfl, rfl, ?_⟩
            refine ⟨_, rfl, _, rfl, d, _, rfl, DGet.k (k := Sum.inl (a : Int)) q2, _, rfl, ?_⟩
            rw [kvC_val, Option.isSome_map]
            cases ea : lk D' a with
            | none =>
              refine iteF (iteF (stay _ _ _ fun e x hx' => ?_))
              rw [(q5 e).1] at ea
              rw [ea] at hx'
              cases hx'
            | some x =>
              have ga : DGet H4 d (kV (Sum.inl (a : Int))) (some (vN x)) := by
                have := DGet.k (k := Sum.inl (a : Int)) q2
                rw [kvC_val, ea] at this
                exact this
              have hput : ∀ (h : lk D' b = none ∨ ∃ y, lk D' b = some y ∧ x + c < y), Good N S L (pt D' b (x + c)) ∧ phi (pt D' b (x + c)) < phi D' := fun h => q3.put hN ea hm (hL a b c hm).1 (hL a b c hm).2 h
              have hlen := q3.length
              refine iteT ⟨_, rfl, _, rfl, d, _, rfl, DGet.k (k := Sum.inl (b : Int)) q2, _, rfl, ?_⟩
              rw [kvC_val, Option.isSome_map]
              have ev : V.int ((x : Int) + (c : Int)) = vN (x + c) := by
                show V.int _ = V.int _
                rw [Int.natCast_add]
              have go : ∀ (h : lk D' b = none ∨ ∃ y, lk D' b = some y ∧ x + c < y), ∃ (D2 : List (Nat × Nat)) (fl' : Bool) (v5 v6 v7 : Option V), [some (V.ref ls), some (.ref la), some (.ref d), v3, some (.bl true), some (vN a), some (vN b), some (vN c)] = [some (.ref ls), some (.ref la), some (.ref d), v3, some (.bl fl'), v5, v6, v7] ∧ Same H (upd H4 d (.dK (putK (kvC D') (Sum.inl (b : Int)) (V.int ((x : Int) + (c : Int)))))) ∧ upd H4 d (.dK (putK (kvC D') (Sum.inl (b : Int)) (V.int ((x : Int) + (c : Int))))) d = some (.dK (kvC D2)) ∧ Good N S L D2 ∧
                  (fl' = true → phi D2 < phi D) ∧ (fl' = false → D2 = D ∧ ∀ j a b c, j < i + 1 → L[j]? = some (a, b, c) → ∀ x, lk D a = some x → ∃ y, lk D b = some y ∧ y ≤ x + c) := by
                intro h
                rw [ev, kvC_put]
                obtain ⟨g2, ph⟩ := hput h
                refine ⟨_, true, _, _, _, rfl, same_upd q1 hd, upd_same, g2, fun _ => ?_, fun e => by cases e⟩
                cases fl with
                | true => exact Nat.lt_trans ph (q4 rfl)
                | false =>
                  rw [← (q5 rfl).1]
                  exact ph
              cases eb : lk D' b with
              | none =>
                refine iteT (iteT ⟨_, rfl, _, rfl, d, _, rfl, ga, _, rfl, _, _, rfl, rfl, _, rfl, _, rfl, d, _, rfl, DPut.k (k := Sum.inl (b : Int)) q2 (small1000 (by rw [kvC_length]; omega)), ?_⟩)
                exact go (.inl eb)
              | some y =>
                have gb : DGet H4 d (kV (Sum.inl (b : Int))) (some (vN y)) := by
                  have := DGet.k (k := Sum.inl (b : Int)) q2
                  rw [kvC_val, eb] at this
                  exact this
                refine iteF ⟨_, rfl, _, rfl, d, _, rfl, ga, _, rfl, _, _, rfl, rfl, _, rfl, _, rfl, d, _, rfl, gb, _, _, rfl, rfl, _, rfl, ?_⟩
                show if decide ((x : Int) + (c : Int) < (y : Int)) = true then _ else _
                by_cases lt : x + c < y
                · rw [decide_eq_true (show (x : Int) + (c : Int) < (y : Int) by omega)]
                  refine iteT ⟨_, rfl, _, rfl, d, _, rfl, ga, _, rfl, _, _, rfl, rfl, _, rfl, _, rfl, d, _, rfl, DPut.k (k := Sum.inl (b : Int)) q2 (small1000 (by rw [kvC_length]; omega)), ?_⟩
                  exact go (.inr ⟨y, eb, lt⟩)
                · rw [decide_eq_false (show ¬ (x : Int) + (c : Int) < (y : Int) by omega)]
                  refine iteF (stay _ _ _ fun e x' hx' => ?_)
                  rw [(q5 e).1] at ea eb
                  rw [ea] at hx'
                  have := Option.some.inj hx'
                  exact ⟨y, eb, by omega⟩
          · rintro σ' H4 ⟨D', fl, w5, w6, w7, rfl, q1, q2, q3, q4, q5⟩
            refine ⟨D', fl, w5, w6, w7, rfl, q1, q2, q3, fun e => ?_, q4⟩
            obtain ⟨rfl, h⟩ := q5 e
            intro a b c hm
            obtain ⟨j, hj, e'⟩ := List.mem_iff_getElem.mp hm
            exact h j a b c (by rw [hR.1]; exact hj) (by rw [List.getElem?_eq_getElem hj, e'])
end
end Wn

set_option Elab.async false
set_option maxRecDepth 100000
set_option maxHeartbeats 4000000
/-! costs_from, costs_to. -/
namespace Wn
open PySem PySem.Spec PyProof.Rows L2
def spCosts (K : PySem.W.Frag) (C : Addr) (arg : Tk → Nat) (told : Tk → Nat → Option Nat) : Sp := fun vs H Q _ => ∃ (t : Tk) (la : Addr) (ps : List Addr), vs = [vN (arg t), .ref la, vN t.facts] ∧ Ok t ∧ SqL K H la (ps.map V.ref) ∧ ActsAt C H ps t.acts ∧
  ∀ (H' : Hp) (p : Addr) (D : List (Nat × Nat)), Same H H' → H p = none → H' p = some (.dK (kvC D)) → Told (2 ^ t.facts) D (told t) → Q (.ref p) H'
abbrev spCostsFrom (K : PySem.W.Frag) (C : Addr) : Sp := spCosts K C (·.start) (fun t => Pn.at_ (Pn14.fromStart t))
abbrev spCostsTo (K : PySem.W.Frag) (C : Addr) : Sp := spCosts K C (·.goal) (fun t => Pn.at_ t.costs)
section
variable {P : Program} {w : World} {K : PySem.W.Frag} {mg : Str → Option Value} {base : Heap} {C : Addr}
theorem scCostsFrom : FnScope ["first", "acts", "fact_count"] ["first", "acts", "fact_count"] (defScope sCostsFrom) := ⟨rfl, rfl, rfl, by decide +kernel, rfl, by decide +kernel, by decide +kernel⟩
theorem ok_costsFrom {f fA fC : Addr} {fd fdA fdC : FuncData} (F : Fun K "costs_from" "costs_from" sCostsFrom f fd)
    (GA : FnOk P w K mg base CX0 3 fA fdA ["acts", "fact_count"] (spAllSteps K C)) (bA : Binds K fdA ["acts", "fact_count"] []) (mA : mg "all_steps" = some (.ref fA)) (kA : PySem.W.keepIn K (.ref fA) = true)
    (GC : FnOk P w K mg base CX0 1 fC fdC ["starts", "steps"] (spCheapest K)) (bC : Binds K fdC ["starts", "steps"] []) (mC : mg "cheapest_costs" = some (.ref fC)) (kC : PySem.W.keepIn K (.ref fC) = true) : FnOk P w K mg base CX0 4 f fd ["first", "acts", "fact_count"] (spCostsFrom K C) := by
  refine F.ok scCostsFrom (fun vs H Q E h => ?_) (fun cdv A outer s H vs Q E hr h => ?_)
  · obtain ⟨t, la, ps, rfl, _⟩ := h
    rfl
  · obtain ⟨t, la, ps, rfl, o, hla, hA, k⟩ := h
    refine ⟨_, pss_one (ps_ret (pe_call GC (hr.mono (by decide)) rfl mC kC bC .nil pass0 (pa_cons (pe_lst (pa_cons (pv 0) pa_nil)) (pa_cons (pe_call GA hr rfl mA kA bA .nil pass0 (pa_cons (pv 1) (pa_cons (pv 2) pa_nil))) pa_nil)))), ?_⟩
    refine ⟨_, rfl, (by show 1 ≤ sizeLine; decide), fun q hq => ?_⟩
    have s0 : Same H (upd H q (.lst [vN t.start])) := same_new hq
    refine ⟨_, rfl, _, rfl, t, la, ps, rfl, o, s0.seq hla, hA.same s0, fun H1 p L ts s1 np hp hR hS hl => ?_⟩
    refine ⟨2 ^ t.facts, q, p, [t.start], L, ts, rfl, SqL.of (s1 _ _ upd_same), SqL.of hp, hR, two32 o.n, fun s hs => ?_, fun a b c m => (hS.lt o m).2, fun H2 d D s2 nd hd g c => ?_⟩
    · rw [List.mem_singleton.mp hs]
      exact o.start
    · exact k H2 d D ((s0.trans s1).trans s2) ((s0.trans s1).free nd) hd (told_from o hS g c)
theorem scCostsTo : FnScope ["wanted", "acts", "fact_count", "ends", "state", "steps", "ahead", "behind", "cost"] ["wanted", "acts", "fact_count"] (defScope sCostsTo) := ⟨rfl, rfl, rfl, by decide +kernel, rfl, by decide +kernel, by decide +kernel⟩
theorem ok_costsTo {f fH fA fC : Addr} {fd fdH fdA fdC : FuncData} (F : Fun K "costs_to" "costs_to" sCostsTo f fd) (range : mg "range" = none)
    (GH : FnOk P w K mg base CX0 1 fH fdH ["state", "facts"] spHasAll) (bH : Binds K fdH ["state", "facts"] []) (mH : mg "has_all" = some (.ref fH)) (kH : PySem.W.keepIn K (.ref fH) = true)
    (GA : FnOk P w K mg base CX0 3 fA fdA ["acts", "fact_count"] (spAllSteps K C)) (bA : Binds K fdA ["acts", "fact_count"] []) (mA : mg "all_steps" = some (.ref fA)) (kA : PySem.W.keepIn K (.ref fA) = true)
    (GC : FnOk P w K mg base CX0 1 fC fdC ["starts", "steps"] (spCheapest K)) (bC : Binds K fdC ["starts", "steps"] []) (mC : mg "cheapest_costs" = some (.ref fC)) (kC : PySem.W.keepIn K (.ref fC) = true) : FnOk P w K mg base CX0 4 f fd ["wanted", "acts", "fact_count"] (spCostsTo K C) := by
  refine F.ok scCostsTo (fun vs H Q E h => ?_) (fun cdv A outer s H vs Q E hr h => ?_)
  · obtain ⟨t, la, ps, rfl, _⟩ := h
    rfl
  · obtain ⟨t, la, ps, rfl, o, hla, hA, k⟩ := h
    refine ⟨_, pss_cons (ps_setLc (i := 3) (own := [("state", 4)]) (g := gName 4) rfl scCostsTo.nd rfl rfl (sw_true rfl rfl rfl (by decide +kernel)) (pi_range1 rfl range (pa_cons (pe_op op_shl pe_int (pv 2)) pa_nil)) (blkOk_by (N := ["wanted", "acts", "fact_count", "ends", "state", "steps", "ahead", "behind", "cost"]) (sc := defScope sCostsTo) (by decide +kernel))
        (fun _ _ _ _ _ => pg_name (i := 4) scCostsTo.nd rfl (Or.inl rfl)) (fun _ _ _ _ _ => pts_one (pt_val (pe_call GH (hr.mono (by decide)) rfl mH kH bH .nil pass0 (pa_cons (pv 4) (pa_cons (pv 0) pa_nil))))) (fun _ _ _ _ _ => pv 4))
      (pss_cons (ps_set (i := 5) scCostsTo.nd rfl (Or.inl rfl) (pe_call GA hr rfl mA kA bA .nil pass0 (pa_cons (pv 1) (pa_cons (pv 2) pa_nil))))
      (pss_one (ps_ret (pe_call GC (hr.mono (by decide)) rfl mC kC bC .nil pass0 (pa_cons (pv 3) (pa_cons
        (pe_lc (own := [("ahead", 6), ("behind", 7), ("cost", 8)]) (g := gTup K 3 (gCons (gName 6) (gCons (gName 7) (gCons (gName 8) gNil)))) (tt := tYes) rfl scCostsTo.nd (pi_list (pv 5)) (blkOk_by (N := ["wanted", "acts", "fact_count", "ends", "state", "steps", "ahead", "behind", "cost"]) (sc := defScope sCostsTo) (by decide +kernel))
          (fun _ _ _ _ _ => pg_tup rfl (pgs_cons (pg_name (i := 6) scCostsTo.nd rfl (Or.inl rfl)) (pgs_cons (pg_name (i := 7) scCostsTo.nd rfl (Or.inl rfl)) (pgs_cons (pg_name (i := 8) scCostsTo.nd rfl (Or.inl rfl)) pgs_nil))))
          (fun _ _ _ _ _ => pts_nil) (fun _ _ _ _ _ => pe_tup (pa_cons (pv 7) (pa_cons (pv 6) (pa_cons (pv 8) pa_nil))))) pa_nil)))))), ?_⟩
    have p2 := two32 o.n
    have e2 : ((1 : Int) * 2 ^ ((t.facts : Int)).toNat).toNat = 2 ^ t.facts := by
      rw [shl1]
      exact Int.toNat_natCast _
    have on := o.n
    refine ⟨_, rfl, _, _, rfl, rfl, ⟨by omega, by omega, by decide⟩, _, rfl, ?_, ?_, ?_⟩
    · rw [shl1]
      omega
    · rw [shl1]
      omega
    rw [e2]
    refine fun D0 hD0 => lc_wv walk_range (fun i => t.done i) (fun i => vN i) hD0 (fun _ _ => trivial) (by omega) ?_ ?_
    · rintro i v H' H2 Yes No hi s1 ⟨e1, rfl⟩ no yes
      rw [e1]
      have ei : V.int (0 + (i : Int)) = vN i := by rw [Int.zero_add]
      refine ⟨rfl, _, rfl, _, rfl, i, t.goal, ?_, _, rfl, ?_⟩
      · show [V.int (0 + (i : Int)), vN t.goal] = _
        rw [ei]
      have ed : Pn.within t.goal i = t.done i := rfl
      rw [ed]
      cases c : t.done i with
      | false => exact iteF (no c H' (Same.refl _))
      | true =>
        refine iteT ⟨_, rfl, ?_⟩
        show Yes (V.int (0 + (i : Int))) H'
        rw [ei]
        exact yes c H' (Same.refl _)
    · intro H1 s1 h1
      refine ⟨_, rfl, _, rfl, t, la, ps, rfl, o, s1.seq hla, hA.same s1, fun H2 p L ts s2 np hp hR hS hl => ?_⟩
      refine ⟨_, rfl, _, rfl, p, rfl, ⟨_, SqL.of hp⟩, fun D1 hD1 => lc_w walk_list (fun _ => true) (fun i v H => ∀ a b c, L[i]? = some (a, b, c) → TripAt (b, a, c) v H) hD1 (fun H' s' => SqL.of (s' _ _ hp)) (by rw [hR.1]; omega) ?_ ?_⟩
      · rintro i x H' H'' Yes No hi s3 ⟨e1, hx⟩ no yes
        rw [e1]
        obtain ⟨⟨a, b, c⟩, hli, q, rfl, hq⟩ := hR.mem hx
        refine ⟨q, _, rfl, SqT.of (s3 _ _ hq), rfl, _, _, rfl, _, _, rfl, _, _, rfl, rfl, rfl, ?_⟩
        show if true = true then _ else No H'
        refine iteT ⟨_, rfl, _, rfl, _, rfl, (by show 3 ≤ sizeLine; decide), fun r hr0 => yes rfl _ _ (same_new hr0) fun H5 n5 a' b' c' e => ?_⟩
        rw [hli] at e
        cases e
        exact ⟨r, rfl, n5 r _ hr0 upd_same⟩
      · intro H3 us s3 h3 hus
        have hus := hus H3 fun b o _ e => e
        rw [List.filter_eq_self.mpr (fun _ _ => rfl)] at hus
        have R2 : Rows TripAt (back L) us H3 := by
          have l1 := hus.1
          rw [List.length_range, hR.1] at l1
          refine ⟨by unfold back; rw [List.length_map]; exact l1, fun j p v e1 e2 => ?_⟩
          unfold back at e1
          rw [List.getElem?_map] at e1
          cases e : L[j]? with
          | none =>
            rw [e] at e1
            cases e1
          | some z =>
            obtain ⟨a, b, c⟩ := z
            rw [e] at e1
            cases e1
            have hj : j < ts.length := by
              rw [hR.1]
              exact (List.getElem?_eq_some_iff.mp e).1
            exact hus.2 j j v (List.getElem?_range hj) e2 a b c e
        have s02 := s2.trans s3
        refine ⟨2 ^ t.facts, D0, D1, ends t, back L, us, rfl, SqL.of (s02 _ _ h1), SqL.of h3, R2, p2, fun s hs => (mem_ends.mp hs).1, fun a b c m => ?_, fun H4 d D s4 nd hd g c => ?_⟩
        · have := hS.lt o (mem_back.mp m)
          exact ⟨this.1, this.2.2⟩
        · have s03 := (s1.trans s02).trans s4
          exact k H4 d D s03 ((s1.trans s02).free nd) hd (told_to o hS g c)
end
end Wn

set_option Elab.async false
set_option maxRecDepth 100000
set_option maxHeartbeats 4000000
/-! without_condition, costs_through, keeps_cheapest, change_to, cheapest_if_any. -/
namespace Wn
open PySem PySem.Spec PyProof.Rows L2
abbrev sThrough : Stmt := top 15
abbrev sKeeps : Stmt := top 16
abbrev sFirstPlan : Stmt := top 17
abbrev sChange : Stmt := top 18
abbrev sConditions : Stmt := top 19
abbrev sIfAny : Stmt := top 46
theorem xor_nat (a b : Nat) : Builtin.bitXor (a : Int) (b : Int) = ((a ^^^ b : Nat) : Int) := by
  rw [Bits.bitXor_pp (Int.natCast_nonneg a) (Int.natCast_nonneg b), Int.toNat_natCast, Int.toNat_natCast]
def spWithout (C : Addr) : Sp := fun vs H Q _ => ∃ (p : Addr) (a : Ac) (i : Nat), vs = [.ref p, vN i] ∧ i ≤ 5 ∧ ActAt C H p a ∧ ∀ (H' : Hp) (q : Addr), Same H H' → H q = none → ActAt C H' q (looser a i) → Q (.ref q) H'
section
variable {P : Program} {w : World} {K : PySem.W.Frag} {mg : Str → Option Value} {base : Heap} {C : Addr}
theorem scWithout : FnScope ["self", "fact", "others"] ["self", "fact"] (defScope sWithout) := ⟨rfl, rfl, rfl, by decide +kernel, rfl, by decide +kernel, by decide +kernel⟩
theorem ok_without {f fI : Addr} {fd fdI : FuncData} (F : Fun K "without_condition" "Act.without_condition" sWithout f fd) (T : TxA K C)
    (MI : Mk K C fI) (GI : FnOk P w K mg base CX0 1 fI fdI ["self", "needs", "bars", "brings", "takes", "cost"] (spActInit C)) (bI : Binds K fdI ["self", "needs", "bars", "brings", "takes", "cost"] []) (gI : mg "Act" = some (.ref C)) : FnOk P w K mg base CX0 3 f fd ["self", "fact"] (spWithout C) := by
  refine F.ok scWithout (fun vs H Q E h => ?_) (fun cdv A outer s H vs Q E hr h => ?_)
  · obtain ⟨p, a, i, rfl, _⟩ := h
    rfl
  · obtain ⟨p, a, i, rfl, hi, ⟨dx, hp⟩, k⟩ := h
    refine ⟨_, pss_cons (ps_set (i := 2) scWithout.nd rfl (Or.inl rfl) (pe_un un_inv (pe_op op_shl pe_int (pv 1))))
      (pss_one (ps_ret (pe_make MI GI hr rfl gI bI .nil pass0 (pa_cons (pe_op op_and (pe_fld (pv 0) rfl) (pv 2)) (pa_cons (pe_op op_and (pe_fld (pv 0) rfl) (pv 2)) (pa_cons (pe_fld (pv 0) rfl) (pa_cons (pe_fld (pv 0) rfl) (pa_cons (pe_fld (pv 0) rfl) pa_nil)))))))), ?_⟩
    refine ⟨_, rfl, _, _, rfl, rfl, ⟨by omega, by omega, by decide⟩, _, rfl, ?_⟩
    refine ⟨_, rfl, p, C, dx, _, _, rfl, hp, T.cl, T.n1, aF_needs a, _, rfl, _, _, rfl, rfl, _, rfl, p, C, dx, _, _, rfl, hp, T.cl, T.n2, aF_bars a, _, rfl, _, _, rfl, rfl, _, rfl, p, C, dx, _, _, rfl, hp, T.cl, T.n3, aF_brings a, _, rfl, p, C, dx, _, _, rfl, hp, T.cl, T.n4, aF_takes a, _, rfl, p, C, dx, _, _, rfl, hp, T.cl, T.n5, aF_cost a, ?_⟩
    intro x dy nx ndy nex
    refine ⟨x, dy, looser a i, ?_, upd_same, fun H2 J kp => ⟨rfl, ?_⟩⟩
    · show [V.ref x, V.int (Builtin.bitAnd (a.pre : Int) (Builtin.bitNot (1 * 2 ^ ((i : Int)).toNat))), V.int (Builtin.bitAnd (a.no : Int) (Builtin.bitNot (1 * 2 ^ ((i : Int)).toNat))), vN a.add, vN a.del, vN a.cost] = _
      rw [shl1, andNot_nat, andNot_nat]
      rfl
    · exact k H2 x (Same.made nx ndy kp) nx J
/-! ### costs_through -/
def through (a : Ac) (D1 D2 : List (Nat × Nat)) (c : Nat) : Prop := ∃ s x y, lk D1 s = some x ∧ a.may s = true ∧ lk D2 (a.then_ s) = some y ∧ c = x + a.cost + y
def spThrough (C : Addr) : Sp := fun vs H Q _ => ∃ (p d1 d2 : Addr) (a : Ac) (D1 D2 : List (Nat × Nat)), vs = [.ref p, .ref d1, .ref d2] ∧ ActAt C H p a ∧ H d1 = some (.dK (kvC D1)) ∧ H d2 = some (.dK (kvC D2)) ∧ d1 ≠ d2 ∧ (D1.map (·.1)).Nodup ∧ D1.length ≤ 1000 ∧
  ∀ (H' : Hp) (q : Addr) (L : List Nat), Same H H' → H q = none → H' q = some (.lst (lN L)) → (∀ c, c ∈ L ↔ through a D1 D2 c) → Q (.ref q) H'
theorem scThrough : FnScope ["act", "costs_ahead", "costs_behind", "found", "state"] ["act", "costs_ahead", "costs_behind"] (defScope sThrough) := ⟨rfl, rfl, rfl, by decide +kernel, rfl, by decide +kernel, by decide +kernel⟩
theorem ok_through {f fM fB : Addr} {fd fdM fdB : FuncData} (F : Fun K "costs_through" "costs_through" sThrough f fd) (T : TxA K C)
    (GM : FnOk P w K mg base CX0 2 fM fdM ["self", "state"] (spMay C)) (bM : Binds K fdM ["self", "state"] []) (mM : Meth K C "may_be_done" fM)
    (GB : FnOk P w K mg base CX0 1 fB fdB ["self", "state"] (spBehind C)) (bB : Binds K fdB ["self", "state"] []) (mB : Meth K C "state_behind" fB) : FnOk P w K mg base CX0 3 f fd ["act", "costs_ahead", "costs_behind"] (spThrough C) := by
  refine F.ok scThrough (fun vs H Q E h => ?_) (fun cdv A outer s H vs Q E hr h => ?_)
  · obtain ⟨p, d1, d2, a, D1, D2, rfl, _⟩ := h
    rfl
  · obtain ⟨p, d1, d2, a, D1, D2, rfl, ⟨dx, hp⟩, h1, h2, n12, nd, hlen, k⟩ := h
    have hu := hu_of hr
    have hr1 : Room 1 _ := hr.mono (by decide)
    refine ⟨_, pss_cons (ps_set (i := 3) scThrough.nd rfl (Or.inl rfl) (pe_lst pa_nil))
      (pss_cons (ps_lock (ps_for PassesOwn.never rfl (pi_keys (pv 1)) (pg_name (i := 4) scThrough.nd rfl (Or.inl rfl))
        (pss_one (ps_if (PW.pt (pw_and (pt_val (pe_meth (pv 0) T.cl mM GM hr bM .nil pass0 (pa_cons (pv 4) pa_nil))) (pw_and1 (pt_cmp (pc_din hu (pe_meth (pv 0) T.cl mB GB hr1 bB .nil pass0 (pa_cons (pv 4) pa_nil)) (pv 2))))))
          (pss_one (ps_expr (pe_bm PySem.F.plainAttrs_list PySem.F.slot_list_append PySem.F.type_list_append mt_append (pv 3)
            (pa_cons (pe_op op_add (pe_op op_add (pe_dget hu (pv 1) (pv 4) (fun _ _ => rfl)) (pe_fld (pv 0) rfl)) (pe_dget hu (pv 2) (pe_meth (pv 0) T.cl mB GB hr1 bB .nil pass0 (pa_cons (pv 4) pa_nil)) (fun _ _ => rfl))) pa_nil)))) pss_nil))))
      (pss_one (ps_ret (pv 3)))), ?_⟩
    refine ⟨Nat.zero_le _, fun r hr0 => ?_⟩
    have n1r : d1 ≠ r := ne_of_none h1 hr0
    have n2r : d2 ≠ r := ne_of_none h2 hr0
    have npr : p ≠ r := ne_of_none hp hr0
    have np1 : p ≠ d1 := ne_of hp h1 (by intro z; cases z)
    refine ⟨d1, _, Eq.trans (upd_ne n1r) h1, trivial, fun od => ?_⟩
    refine ⟨_, rfl, d1, od, rfl, .inl ⟨_, upd_same, for_it walk_keys (fun i σ H' => ∃ (L : List Nat) (v4 : Option V), σ = [some (.ref p), some (.ref d1), some (.ref d2), some (.ref r), v4] ∧ (∀ b o, b ≠ d1 → H b = some o → H' b = some o) ∧ H' d1 = some (.frz od (.dK (kvC D1))) ∧ H' r = some (.lst (lN L)) ∧ L.length ≤ i ∧
      ∀ c, c ∈ L ↔ ∃ j s x y, j < i ∧ D1[j]? = some (s, x) ∧ a.may s = true ∧ lk D2 (a.then_ s) = some y ∧ c = x + a.cost + y) ⟨[], none, rfl, ?_, upd_same, ?_, Nat.zero_le _, ?_⟩ (fun i σ H' _ h => ?_) ?_ ?_⟩⟩
    · intro b o nb e
      rw [upd_ne nb, upd_ne (ne_of_none e hr0)]
      exact e
    · rw [upd_ne n1r.symm, upd_same]
      rfl
    · intro c
      refine ⟨fun h => (by cases h), fun ⟨j, _, _, _, hj, _⟩ => absurd hj (Nat.not_lt_zero _)⟩
    · obtain ⟨_, _, _, _, q, _⟩ := h
      exact q
    · rintro i x σ H' H'' hi ⟨L, v4, rfl, kp, hf, hL, hl, hm⟩ ⟨e1, kk, vv, hk, rfl⟩
      rw [e1]
      rw [kvC_length] at hi
      obtain ⟨sx, hsx⟩ : ∃ sx, D1[i]? = some sx := ⟨_, List.getElem?_eq_getElem hi⟩
      obtain ⟨st, x⟩ := sx
      have hk' : (kvC D1)[i]? = some (Sum.inl (st : Int), vN x) := by
        unfold kvC
        rw [List.getElem?_map, hsx]
        rfl
      rw [hk'] at hk
      cases hk
      have hx : lk D1 st = some x := lk_of_mem nd (List.mem_of_getElem? hsx)
      have hp' := kp _ _ np1 hp
      have h2' := kp _ _ n12.symm h2
      have no : (∀ y, ¬ (a.may st = true ∧ lk D2 (a.then_ st) = some y)) → ∃ (L' : List Nat) (v4 : Option V), [some (V.ref p), some (.ref d1), some (.ref d2), some (.ref r), some (vN st)] = [some (.ref p), some (.ref d1), some (.ref d2), some (.ref r), v4] ∧ (∀ b o, b ≠ d1 → H b = some o → H' b = some o) ∧ H' d1 = some (.frz od (.dK (kvC D1))) ∧ H' r = some (.lst (lN L')) ∧ L'.length ≤ i + 1 ∧
          ∀ c, c ∈ L' ↔ ∃ j s x y, j < i + 1 ∧ D1[j]? = some (s, x) ∧ a.may s = true ∧ lk D2 (a.then_ s) = some y ∧ c = x + a.cost + y := by
        intro h
        refine ⟨L, _, rfl, kp, hf, hL, by omega, fun c => ?_⟩
        rw [hm]
        constructor
        · rintro ⟨j, s, x, y, hj, q⟩
          exact ⟨j, s, x, y, by omega, q⟩
        · rintro ⟨j, s, x', y, hj, q1, q2, q3, q4⟩
          by_cases e : j = i
          · subst e
            rw [hsx] at q1
            cases q1
            exact absurd ⟨q2, q3⟩ (h y)
          · exact ⟨j, s, x', y, by omega, q1, q2, q3, q4⟩
      refine ⟨_, rfl, p, dx, _, rfl, hp', aF_no a (by decide +kernel), _, rfl, p, a, st, rfl, ⟨dx, hp'⟩, _, rfl, ?_⟩
      cases em : a.may st with
      | false =>
        refine iteF (iteF (no fun y z => ?_))
        rw [em] at z
        cases z.1
      | true =>
        refine iteT ⟨_, rfl, p, dx, _, rfl, hp', aF_no a (by decide +kernel), _, rfl, p, a, st, rfl, ⟨dx, hp'⟩, _, rfl, d2, _, rfl, DGet.k (k := Sum.inl ((a.then_ st : Nat) : Int)) h2', _, rfl, ?_⟩
        rw [kvC_val, Option.isSome_map]
        cases ey : lk D2 (a.then_ st) with
        | none =>
          refine iteF (no fun y z => ?_)
          rw [ey] at z
          cases z.2
        | some y =>
          have g1 : DGet H' d1 (vN st) (some (vN x)) := .inl ⟨kvC D1, Sum.inl (st : Int), .inr ⟨od, hf⟩, rfl, by rw [kvC_val, hx]; rfl⟩
          have g2 : DGet H' d2 (vN (a.then_ st)) (some (vN y)) := .inl ⟨kvC D2, Sum.inl ((a.then_ st : Nat) : Int), .inl h2', rfl, by rw [kvC_val, ey]; rfl⟩
          refine iteT ⟨_, rfl, .inl ⟨rfl, _, SqL.of hL⟩, _, rfl, _, rfl, d1, _, rfl, g1, _, rfl, p, C, dx, _, _, rfl, hp', T.cl, T.n5, aF_cost a, _, _, rfl, rfl, _, rfl, _, rfl, p, dx, _, rfl, hp', aF_no a (by decide +kernel), _, rfl, p, a, st, rfl, ⟨dx, hp'⟩, d2, _, rfl, g2, _, _, rfl, rfl, ?_⟩
          refine ⟨r, _, _, rfl, rfl, hL, small1000 (by rw [List.length_map]; omega), ?_⟩
          refine ⟨L ++ [x + a.cost + y], _, rfl, fun b o nb e => ?_, ?_, ?_, ?_, fun c => ?_⟩
          · rw [upd_ne (ne_of_none e hr0)]
            exact kp b o nb e
          · rw [upd_ne n1r]
            exact hf
          · rw [upd_same, lN, lN, List.map_append]
            show some (HO.lst (_ ++ [V.int ((x : Int) + (a.cost : Int) + (y : Int))])) = some (HO.lst (_ ++ [V.int ((x + a.cost + y : Nat) : Int)]))
            rw [Int.natCast_add, Int.natCast_add]
          · rw [List.length_append, List.length_singleton]
            omega
          · rw [List.mem_append, hm, List.mem_singleton]
            constructor
            · rintro (⟨j, s, x', y', hj, q⟩ | e)
              · exact ⟨j, s, x', y', by omega, q⟩
              · exact ⟨i, st, x, y, by omega, hsx, em, ey, e⟩
            · rintro ⟨j, s, x', y', hj, q1, q2, q3, q4⟩
              by_cases e : j = i
              · subst e
                rw [hsx] at q1
                cases q1
                rw [ey] at q3
                cases q3
                exact .inr q4
              · exact .inl ⟨j, s, x', y', by omega, q1, q2, q3, q4⟩
    · rintro σ H' ⟨L, v4, rfl, kp, hf, hL, hl, hm⟩
      refine ⟨hf, _, rfl, ?_⟩
      have nr1 : r ≠ d1 := n1r.symm
      refine k _ r L (fun b o e => ?_) hr0 (Eq.trans (upd_ne nr1) hL) fun c => ?_
      · by_cases nb : b = d1
        · rw [nb, upd_same, ← h1, ← nb, e]
        · rw [upd_ne nb]
          exact kp b o nb e
      · rw [hm]
        constructor
        · rintro ⟨j, s, x, y, _, q1, q2, q3, q4⟩
          exact ⟨s, x, y, lk_of_mem nd (List.mem_of_getElem? q1), q2, q3, q4⟩
        · rintro ⟨s, x, y, q1, q2, q3, q4⟩
          obtain ⟨j, hj, e⟩ := List.mem_iff_getElem.mp (lk_some_mem q1)
          exact ⟨j, s, x, y, by rw [kvC_length]; exact hj, by rw [List.getElem?_eq_getElem hj, e], q2, q3, q4⟩
/-! ### keeps_cheapest -/
def keepsB (a : Ac) (s v : Nat) (D : List (Nat × Nat)) : Bool := a.may s && ((lk D (a.then_ s)).map fun c => a.cost + c) == some v
def spKeeps (C : Addr) : Sp := fun vs H Q _ => ∃ (p d : Addr) (a : Ac) (s v : Nat) (D : List (Nat × Nat)), vs = [.ref p, vN s, .ref d] ∧ ActAt C H p a ∧ H d = some (.dK (kvC D)) ∧ lk D s = some v ∧ Q (.bl (keepsB a s v D)) H
theorem scKeeps : FnScope ["act", "state", "costs"] ["act", "state", "costs"] (defScope sKeeps) := ⟨rfl, rfl, rfl, by decide +kernel, rfl, by decide +kernel, by decide +kernel⟩
theorem ok_keeps {f fM fB : Addr} {fd fdM fdB : FuncData} (F : Fun K "keeps_cheapest" "keeps_cheapest" sKeeps f fd) (T : TxA K C)
    (GM : FnOk P w K mg base CX0 2 fM fdM ["self", "state"] (spMay C)) (bM : Binds K fdM ["self", "state"] []) (mM : Meth K C "may_be_done" fM)
    (GB : FnOk P w K mg base CX0 1 fB fdB ["self", "state"] (spBehind C)) (bB : Binds K fdB ["self", "state"] []) (mB : Meth K C "state_behind" fB) : FnOk P w K mg base CX0 3 f fd ["act", "state", "costs"] (spKeeps C) := by
  refine F.ok scKeeps (fun vs H Q E h => ?_) (fun cdv A outer s H vs Q E hr h => ?_)
  · obtain ⟨p, d, a, st, v, D, rfl, _⟩ := h
    rfl
  · obtain ⟨p, d, a, st, v, D, rfl, ⟨dx, hp⟩, hd, hv, k⟩ := h
    have hu := hu_of hr
    have hr1 : Room 1 _ := hr.mono (by decide)
    refine ⟨_, pss_one (ps_ret (pe_and (pe_meth (pv 0) T.cl mM GM hr bM .nil pass0 (pa_cons (pv 1) pa_nil))
      (pe_one (pe_cmpR op_eq (pe_dget1 hu (pv 2) (pe_meth (pv 0) T.cl mB GB hr1 bB .nil pass0 (pa_cons (pv 1) pa_nil)) ⟨rfl, rfl, rfl, rfl⟩) (pe_op op_sub (pe_dget hu (pv 2) (pv 1) (fun _ _ => rfl)) (pe_fld (pv 0) rfl)) (nomark _))))), ?_⟩
    refine ⟨_, rfl, p, dx, _, rfl, hp, aF_no a (by decide +kernel), _, rfl, p, a, st, rfl, ⟨dx, hp⟩, _, rfl, ?_⟩
    unfold keepsB at k
    cases em : a.may st with
    | false =>
      rw [em] at k
      exact iteF k
    | true =>
      rw [em, Bool.true_and] at k
      have g1 : DGet H d (vN st) (some (vN v)) := .inl ⟨kvC D, Sum.inl (st : Int), .inl hd, rfl, by rw [kvC_val, hv]; rfl⟩
      refine iteT ⟨_, rfl, d, rfl, .inl ⟨_, .inl hd⟩, _, rfl, p, dx, _, rfl, hp, aF_no a (by decide +kernel), _, rfl, p, a, st, rfl, ⟨dx, hp⟩, _, DGet.k (k := Sum.inl ((a.then_ st : Nat) : Int)) hd, _, rfl, _, rfl, d, _, rfl, g1, _, rfl, p, C, dx, _, _, rfl, hp, T.cl, T.n5, aF_cost a, _, _, rfl, rfl, ?_⟩
      rw [kvC_val]
      cases ey : lk D (a.then_ st) with
      | none =>
        rw [ey] at k
        exact ⟨rfl, k⟩
      | some y =>
        rw [ey] at k
        refine ⟨rfl, ?_⟩
        have e : decide (V.int (y : Int) = V.int ((v : Int) - (a.cost : Int))) = ((some y).map (fun c => a.cost + c) == some v) := by
          rw [Bool.eq_iff_iff, decide_eq_true_eq, V.int.injEq, beq_iff_eq]
          show (y : Int) = _ ↔ some (a.cost + y) = some v
          rw [Option.some.injEq]
          omega
        show Q (V.bl (decide (V.int (y : Int) = V.int ((v : Int) - (a.cost : Int))))) H
        rw [e]
        exact k
/-! ### change_to -/
def spChange (K : PySem.W.Frag) : Sp := fun vs H Q _ => ∃ (s s0 n : Nat) (lp : Addr) (ps : List Nat), vs = [vN s, vN s0, .ref lp] ∧ s < 2 ^ n ∧ s0 < 2 ^ n ∧ n ≤ 5 ∧ SqL K H lp (lN ps) ∧ ps.length = n ∧
  ∀ (H' : Hp) (q l : Addr), Same H H' → H q = none → H l = none → q ≠ l → H' q = some (.tup [vN (Pn14.dear ps (factsOf n (s0 ^^^ s))), vN (factsOf n (s0 ^^^ s)).length, .ref l]) → H' l = some (.lst (lN (factsOf n (s0 ^^^ s)))) → Q (.ref q) H'
theorem scChange : FnScope ["state", "first", "price_list", "facts", "fact"] ["state", "first", "price_list"] (defScope sChange) := ⟨rfl, rfl, rfl, by decide +kernel, rfl, by decide +kernel, by decide +kernel⟩
theorem sum_nat : ∀ (l : List Nat), (l.map fun (n : Nat) => (n : Int)).sum = ((Pn.sum l : Nat) : Int)
  | [] => rfl
  | a :: l => by
    rw [List.map_cons, List.sum_cons, sum_nat l, sum_cons, Int.natCast_add]
theorem ok_change {f fF : Addr} {fd fdF : FuncData} (F : Fun K "change_to" "change_to" sChange f fd) (sum : mg "sum" = none) (len : mg "len" = none)
    (GF : FnOk P w K mg base CX0 1 fF fdF ["facts"] spFacts) (bF : Binds K fdF ["facts"] []) (mF : mg "facts_in" = some (.ref fF)) (kF : PySem.W.keepIn K (.ref fF) = true) : FnOk P w K mg base CX0 2 f fd ["state", "first", "price_list"] (spChange K) := by
  refine F.ok scChange (fun vs H Q E h => ?_) (fun cdv A outer s H vs Q E hr h => ?_)
  · obtain ⟨s, s0, n, lp, ps, rfl, _⟩ := h
    rfl
  · obtain ⟨st, s0, n, lp, ps, rfl, hs, hs0, hn, hlp, hps, k⟩ := h
    refine ⟨_, pss_cons (ps_set (i := 3) scChange.nd rfl (Or.inl rfl) (pe_call GF hr rfl mF kF bF .nil pass0 (pa_cons (pe_op op_xor (pv 0) (pv 1)) pa_nil)))
      (pss_one (ps_ret (pe_tup (pa_cons (pe_callB (cr_sum rfl) (by rfl) sum (by decide +kernel) (pa_cons
        (pe_lc (own := [("fact", 4)]) (g := gName 4) (tt := tYes) (te := tOp (rIxL K) (tVar 2) (tVar 4)) rfl scChange.nd (pi_list (pv 3)) (blkOk_by (N := ["state", "first", "price_list", "facts", "fact"]) (sc := defScope sChange) (by decide +kernel))
          (fun _ _ _ _ _ => pg_name (i := 4) scChange.nd rfl (Or.inl rfl)) (fun _ _ _ _ _ => pts_nil) (fun _ _ _ _ _ => pe_ix ix_list (pv 2) (pv 4) (fun _ _ => rfl))) pa_nil))
        (pa_cons (pe_callB call_len_seq (by rfl) len PySem.boot_len (pa_cons (pv 3) pa_nil)) (pa_cons (pv 3) pa_nil)))))), ?_⟩
    refine ⟨_, rfl, _, rfl, _, _, rfl, rfl, s0 ^^^ st, n, ?_, xor_lt hs0 hs, hn, fun H1 l s1 nl hl => ?_⟩
    · show [V.int (Builtin.bitXor (st : Int) (s0 : Int))] = _
      rw [xor_nat, Nat.xor_comm]
    refine ⟨_, rfl, l, rfl, ⟨_, SqL.of hl⟩, fun D hD => lc_mT (ys := factsOf n (s0 ^^^ st)) (fun i => vN (ps.getD i 1)) hD (SqL.of hl) (Nat.le_trans (factsOf_len _ _) (by omega)) (fun _ => rfl) ?_ ?_⟩
    · intro y H' Qv hy s2 q
      have yn : y < ps.length := by
        rw [hps]
        exact (mem_factsOf.mp hy).1
      refine ⟨_, rfl, _, rfl, lp, _, _, vN (ps.getD y 1), rfl, rfl, (s1.trans s2).seq hlp, atI_nat ?_, q H' (Same.refl _)⟩
      rw [List.getElem?_map, List.getD_eq_getElem?_getD, List.getElem?_eq_getElem yn]
      rfl
    · intro H2 s2 hD2
      have s12 := s1.trans s2
      refine ⟨D, (factsOf n (s0 ^^^ st)).map (fun i => ((ps.getD i 1 : Nat) : Int)), rfl, SqL.of (by rw [hD2, List.map_map]; rfl), ?_⟩
      refine ⟨_, rfl, l, _, rfl, .inl (SqL.of (s2 _ _ hl)), _, rfl, (by show 3 ≤ sizeLine; decide), fun q hq => ?_⟩
      have nql : q ≠ l := fun z => by
        rw [z, s2 _ _ hl] at hq
        cases hq
      refine k _ q l (same_upd s12 (s12.free hq)) (s12.free hq) nl nql ?_ (Eq.trans (upd_ne nql.symm) (s2 _ _ hl))
      rw [upd_same]
      have e : ((factsOf n (s0 ^^^ st)).map fun i => ((ps.getD i 1 : Nat) : Int)).sum = ((Pn14.dear ps (factsOf n (s0 ^^^ st)) : Nat) : Int) := by
        unfold Pn14.dear
        rw [← sum_nat, List.map_map]
        rfl
      rw [e, List.length_map]
/-! ### cheapest_if_any -/
def spIfAny (K : PySem.W.Frag) : Sp := fun vs H Q _ => ∃ (a : Addr) (L : List Nat) (x : Option Nat), vs = [.ref a] ∧ SqL K H a (lN L) ∧ (∀ c, Le x c ↔ ∃ v ∈ L, v ≤ c) ∧ ∀ (H' : Hp) (q : Addr), Same H H' → H q = none → H' q = some (.lst (lN (Pn14.told x))) → Q (.ref q) H'
theorem scIfAny : FnScope ["costs"] ["costs"] (defScope sIfAny) := ⟨rfl, rfl, rfl, by decide +kernel, rfl, by decide +kernel, by decide +kernel⟩
theorem ok_ifAny {f : Addr} {fd : FuncData} (F : Fun K "cheapest_if_any" "cheapest_if_any" sIfAny f fd) (len : mg "len" = none) (min : mg "min" = none) : FnOk P w K mg base CX0 1 f fd ["costs"] (spIfAny K) := by
  refine F.ok scIfAny (fun vs H Q E h => ?_) (fun cdv A outer s H vs Q E hr h => ?_)
  · obtain ⟨a, L, x, rfl, _⟩ := h
    rfl
  · obtain ⟨a, L, x, rfl, ha, hx, k⟩ := h
    refine ⟨_, pss_one (ps_ret (pe_ifExp (pt_cmpR op_gt (pe_callB call_len_seq (by rfl) len PySem.boot_len (pa_cons (pv 0) pa_nil)) pe_int (nomark _))
      (pe_lst (pa_cons pe_int (pa_cons (pe_callB (cr_min rfl) (by rfl) min (by decide +kernel) (pa_cons (pv 0) pa_nil)) pa_nil))) (pe_lst (pa_cons pe_int pa_nil)))), ?_⟩
    refine ⟨_, rfl, a, _, rfl, .inl ha, _, _, rfl, rfl, _, rfl, ?_⟩
    rw [List.length_map]
    cases L with
    | nil =>
      have e : x = none := by
        cases x with
        | none => rfl
        | some v =>
          obtain ⟨_, h, _⟩ := (hx v).mp ⟨v, rfl, Nat.le_refl _⟩
          cases h
      subst e
      refine if_neg (show ¬ decide ((0 : Int) < ((([] : List Nat).length : Nat) : Int)) = true by decide) ▸ ?_
      refine ⟨(by show 1 ≤ sizeLine; decide), fun q hq => k _ q (same_new hq) hq upd_same⟩
    | cons c L =>
      refine (if_pos (show decide ((0 : Int) < (((c :: L).length : Nat) : Int)) = true from decide_eq_true (by rw [List.length_cons]; omega))).symm ▸ ?_
      have hl : (lN (c :: L)) = ((c :: L).map fun (n : Nat) => (n : Int)).map V.int := by
        rw [List.map_map]
        rfl
      refine ⟨_, rfl, a, (c :: L).map (fun (n : Nat) => (n : Int)), rfl, by rw [← hl]; exact ha, by rw [List.length_map, List.length_cons]; exact Nat.succ_pos _, fun m hm hle => ?_⟩
      obtain ⟨v, hv, rfl⟩ := List.mem_map.mp hm
      have e : x = some v := by
        refine le_ext fun b => ?_
        rw [hx, le_some]
        constructor
        · rintro ⟨u, hu, hub⟩
          have := hle (u : Int) (List.mem_map.mpr ⟨u, hu, rfl⟩)
          omega
        · exact fun h => ⟨v, hv, h⟩
      subst e
      refine ⟨(by show 2 ≤ sizeLine; decide), fun q hq => k _ q (same_new hq) hq upd_same⟩
end
end Wn

set_option Elab.async false
set_option maxRecDepth 100000
set_option maxHeartbeats 4000000
/-! first_cheapest_plan, conditions_in_the_way. -/
namespace Wn
open PySem PySem.Spec PyProof.Rows L2
theorem best_length {t : Tk} {d : Array (Option Nat)} : ∀ (n s : Nat), (t.best d n s).length ≤ n
  | 0, _ => Nat.le_refl _
  | n + 1, s => by
    unfold Pn.Task.best
    split
    · exact Nat.zero_le _
    · split
      · rw [List.length_cons]
        exact Nat.succ_le_succ (best_length n _)
      · exact Nat.zero_le _
theorem first_length {t : Tk} (o : Ok t) {s : Nat} (hs : s < 2 ^ t.facts) {l : List Nat} (f : First t s l) : l.length ≤ 32 := by
  have h := f.price o hs
  have g := best_first o (2 ^ t.facts) s _ hs h (Nat.le_succ_of_le (rank_le t _))
  rw [f.unique g]
  exact Nat.le_trans (best_length _ _) (two32 o.n)
theorem first_here {t : Tk} (o : Ok t) {s v : Nat} (hs : s < 2 ^ t.facts) (h : Pn.at_ t.costs s = some v) : First t s (t.best t.costs (2 ^ t.facts) s) :=
  best_first o (2 ^ t.facts) s _ hs h (Nat.le_succ_of_le (rank_le t _))
def spFirstPlan (K : PySem.W.Frag) (C : Addr) : Sp := fun vs H Q _ => ∃ (t : Tk) (la d : Addr) (ps : List Addr) (D : List (Nat × Nat)) (l : List Nat), vs = [vN t.start, .ref la, .ref d] ∧ Ok t ∧ SqL K H la (ps.map V.ref) ∧ ActsAt C H ps t.acts ∧ H d = some (.dK (kvC D)) ∧ Told (2 ^ t.facts) D (Pn.at_ t.costs) ∧ First t t.start l ∧
  ∀ (H' : Hp) (p : Addr), Same H H' → H p = none → H' p = some (.lst (lN l)) → Q (.ref p) H'
section
variable {P : Program} {w : World} {K : PySem.W.Frag} {mg : Str → Option Value} {base : Heap} {C : Addr}
theorem scFirstPlan : FnScope ["first", "acts", "costs", "state", "done", "lowest", "k", "act"] ["first", "acts", "costs"] (defScope sFirstPlan) := ⟨rfl, rfl, rfl, by decide +kernel, rfl, by decide +kernel, by decide +kernel⟩
theorem ok_firstPlan {f fK fB : Addr} {fd fdK fdB : FuncData} (F : Fun K "first_cheapest_plan" "first_cheapest_plan" sFirstPlan f fd) (T : TxA K C) (min : mg "min" = none) (enum : mg "enumerate" = none)
    (GK : FnOk P w K mg base CX0 3 fK fdK ["act", "state", "costs"] (spKeeps C)) (bK : Binds K fdK ["act", "state", "costs"] []) (mK : mg "keeps_cheapest" = some (.ref fK)) (kK : PySem.W.keepIn K (.ref fK) = true)
    (GB : FnOk P w K mg base CX0 1 fB fdB ["self", "state"] (spBehind C)) (bB : Binds K fdB ["self", "state"] []) (mB : Meth K C "state_behind" fB) : FnOk P w K mg base CX0 4 f fd ["first", "acts", "costs"] (spFirstPlan K C) := by
  refine F.ok scFirstPlan (fun vs H Q E h => ?_) (fun cdv A outer s H vs Q E hr h => ?_)
  · obtain ⟨t, la, d, ps, D, l, rfl, _⟩ := h
    rfl
  · obtain ⟨t, la, d, ps, D, l, rfl, o, hla, hA, hd, hT, hF, k⟩ := h
    have hu := hu_of hr
    have hr1 : Room 1 _ := hr.mono (by decide)
    refine ⟨_, pss_cons (ps_set (i := 3) scFirstPlan.nd rfl (Or.inr rfl) (pv 0))
      (pss_cons (ps_set (i := 4) scFirstPlan.nd rfl (Or.inl rfl) (pe_lst pa_nil))
      (pss_cons (ps_while PassesOwn.never (pt_cmpR op_gt (pe_dget hu (pv 2) (pv 3) (fun _ _ => rfl)) pe_int (nomark _))
        (pss_cons (ps_set (i := 5) scFirstPlan.nd rfl (Or.inl rfl) (pe_callB (cr_min rfl) (by rfl) min (by decide +kernel) (pa_cons
          (pe_lc (own := [("k", 6), ("act", 7)]) (g := gTup K 2 (gCons (gName 6) (gCons (gName 7) gNil))) rfl scFirstPlan.nd (pi_enum rfl enum (pa_cons (pv 1) pa_nil)) (blkOk_by (N := ["first", "acts", "costs", "state", "done", "lowest", "k", "act"]) (sc := defScope sFirstPlan) (by decide +kernel))
            (fun _ _ _ _ _ => pg_tup rfl (pgs_cons (pg_name (i := 6) scFirstPlan.nd rfl (Or.inl rfl)) (pgs_cons (pg_name (i := 7) scFirstPlan.nd rfl (Or.inl rfl)) pgs_nil)))
            (fun _ _ _ _ _ => pts_one (pt_val (pe_call GK hr rfl mK kK bK .nil pass0 (pa_cons (pv 7) (pa_cons (pv 3) (pa_cons (pv 2) pa_nil)))))) (fun _ _ _ _ _ => pv 6)) pa_nil)))
        (pss_cons (ps_expr (pe_bm PySem.F.plainAttrs_list PySem.F.slot_list_append PySem.F.type_list_append mt_append (pv 4) (pa_cons (pv 5) pa_nil)))
        (pss_one (ps_set (i := 3) scFirstPlan.nd rfl (Or.inr rfl) (pe_meth (pe_ix ix_list (pv 1) (pv 5) (fun _ _ => rfl)) T.cl mB GB hr1 bB .nil pass0 (pa_cons (pv 3) pa_nil)))))))
      (pss_one (ps_ret (pv 4))))), ?_⟩
    refine ⟨_, rfl, Nat.zero_le _, fun r hr0 => ?_⟩
    have nrd : r ≠ d := fun z => by
      rw [z, hd] at hr0
      cases hr0
    have pl := hA.1
    have few := o.few
    have hv0 := hF.price o o.start
    refine ⟨fun m σ H' => ∃ (st v : Nat) (dn rest : List Nat) (v5 : Option V), m = v ∧ σ = [some (vN t.start), some (.ref la), some (.ref d), some (vN st), some (.ref r), v5, none, none] ∧ Same H H' ∧ H' r = some (.lst (lN dn)) ∧ st < 2 ^ t.facts ∧ Pn.at_ t.costs st = some v ∧ First t st rest ∧ dn ++ rest = l,
      ⟨_, t.start, _, [], l, none, rfl, rfl, same_new hr0, upd_same, o.start, hv0, hF, rfl⟩, ?_⟩
    rintro m σ H' ⟨st, v, dn, rest, v5, rfl, rfl, s1, hR, hst, hv, hf, hl⟩
    have hlv : lk D st = some m := (hT.eq st hst).trans hv
    have gd : DGet H' d (vN st) (some (vN m)) := .inl ⟨kvC D, Sum.inl (st : Int), .inl (s1 _ _ hd), rfl, by rw [kvC_val, hlv]; rfl⟩
    refine ⟨_, rfl, _, rfl, d, _, rfl, gd, _, _, rfl, rfl, _, rfl, ?_⟩
    show if decide ((0 : Int) < (m : Int)) = true then _ else _
    by_cases c : 0 < m
    · rw [decide_eq_true (show (0 : Int) < (m : Int) by omega)]
      have nd : ¬ t.done st = true := fun z => by
        have := costs_done o hst z
        rw [hv] at this
        have := Option.some.inj this
        omega
      obtain ⟨j, v', ep, hc, e, hjv, low⟩ := pick_some o hst hv nd
      have hj : j < t.acts.length := (can_iff.mp hc).1
      have hthen := o.then_lt hst hc
      have f' := first_here o hthen e
      have er : rest = j :: t.best t.costs (2 ^ t.facts) ((t.act j).then_ st) := hf.unique (first_cons o hst hv nd hc e hjv low f')
      have pos := cost_pos o hc
      refine iteT ⟨fun σ' H2 => ∃ (dn : List Nat) (v5 : Option V), σ' = [some (vN t.start), some (.ref la), some (.ref d), some (vN ((t.act j).then_ st)), some (.ref r), v5, none, none] ∧ Same H H2 ∧ H2 r = some (.lst (lN dn)) ∧ dn ++ t.best t.costs (2 ^ t.facts) ((t.act j).then_ st) = l, ?_, ?_⟩
      · rintro σ' H2 ⟨dn, w5, rfl, q1, q2, q3⟩
        exact ⟨v', by omega, _, v', dn, _, w5, rfl, rfl, q1, q2, hthen, e, f', q3⟩
      · have hla1 := s1.seq hla
        refine ⟨_, rfl, la, _, rfl, hla1, fun G hG => lc_wv walk_enum (fun i => keepsB (t.act i) st m D) (fun i => vN i) hG (fun H2 s2 => s2.seq hla1) (by rw [List.length_map, pl]; omega) ?_ ?_⟩
        · rintro i x H2 H3 Yes No hi s2 ⟨T0, x0, y0, rfl, nT, rfl, e1, e2⟩ no yes
          cases e1
          obtain ⟨pa, hpa, rfl⟩ := ref_get e2
          obtain ⟨a, ha, dx, hax⟩ := hA.2 i pa hpa
          have hil : i < t.acts.length := (List.getElem?_eq_some_iff.mp ha).1
          have ea : t.act i = a := by
            rw [act_get hil]
            exact (List.getElem?_eq_some_iff.mp ha).2
          have s3 := same_upd (o := .tup [.int (i : Nat), .ref pa]) (Same.refl H2) nT
          have s13 := (s1.trans s2).trans s3
          refine ⟨T0, _, rfl, SqT.of upd_same, rfl, _, _, rfl, _, _, rfl, rfl, rfl, _, rfl, _, rfl, _, rfl, pa, d, a, st, m, D, rfl, ⟨dx, s13 _ _ hax⟩, s13 _ _ hd, hlv, _, rfl, ?_⟩
          rw [← ea]
          cases cb : keepsB (t.act i) st m D with
          | false => exact iteF (no cb _ s3)
          | true => exact iteT ⟨_, rfl, yes cb _ s3⟩
        · intro H2 s2 hG2
          rw [List.length_map, pl] at hG2
          have mem : ∀ i, i ∈ (List.range t.acts.length).filter (fun i => keepsB (t.act i) st m D) ↔ t.can st i = true ∧ ∃ v2, Pn.at_ t.costs ((t.act i).then_ st) = some v2 ∧ (t.act i).cost + v2 = m := by
            intro i
            rw [List.mem_filter, List.mem_range]
            unfold keepsB
            rw [Bool.and_eq_true, beq_iff_eq, can_iff, and_assoc]
            refine and_congr_right fun hi => and_congr_right fun hm => ?_
            have lt2 := o.then_lt hst (can_iff.mpr ⟨hi, hm⟩)
            rw [hT.eq _ lt2]
            cases Pn.at_ t.costs ((t.act i).then_ st) with
            | none => exact ⟨fun z => (by cases z), fun ⟨_, z, _⟩ => (by cases z)⟩
            | some y => exact ⟨fun z => ⟨y, rfl, Option.some.inj z⟩, fun ⟨_, z, q⟩ => (by cases z; exact congrArg some q)⟩
          have hjm := (mem j).mpr ⟨hc, v', e, hjv⟩
          refine ⟨G, ((List.range t.acts.length).filter (fun i => keepsB (t.act i) st m D)).map (fun (n : Nat) => (n : Int)), rfl, SqL.of (by rw [hG2, List.map_map]; rfl), ?_, fun z hz hle => ?_⟩
          · rw [List.length_map]
            exact List.length_pos_of_mem hjm
          obtain ⟨i, hi, rfl⟩ := List.mem_map.mp hz
          have ij : i = j := by
            have h1 := hle (j : Int) (List.mem_map.mpr ⟨j, hjm, rfl⟩)
            obtain ⟨c1, v2, c2, c3⟩ := (mem i).mp hi
            rcases Nat.lt_or_ge i j with lt | ge
            · exact absurd c3 (low i v2 lt c1 c2)
            · omega
          subst ij
          have s12 := s1.trans s2
          have hR2 := s2 _ _ hR
          have dl : dn.length ≤ 32 := by
            have := first_length o o.start hF
            rw [← hl, List.length_append] at this
            omega
          refine ⟨_, rfl, .inl ⟨rfl, _, SqL.of hR2⟩, _, rfl, r, _, _, rfl, rfl, hR2, small1000 (by rw [List.length_map]; omega), ?_⟩
          have hpl : i < ps.length := by
            rw [pl]
            exact hj
          obtain ⟨a, ha, dx, hax⟩ := hA.2 i _ (List.getElem?_eq_getElem hpl)
          have ea : t.act i = a := by
            rw [act_get hj]
            exact (List.getElem?_eq_some_iff.mp ha).2
          have s3 : Same H (upd H2 r (.lst (lN dn ++ [vN i]))) := same_upd s12 hr0
          refine ⟨_, rfl, _, rfl, la, _, _, .ref ps[i], rfl, rfl, s3.seq hla, atI_nat (by rw [List.getElem?_map, List.getElem?_eq_getElem hpl]; rfl), ps[i], dx, _, rfl, s3 _ _ hax, aF_no a (by decide +kernel), _, rfl, ps[i], a, st, rfl, ⟨dx, s3 _ _ hax⟩, ?_⟩
          refine ⟨dn ++ [i], some (vN i), ?_, s3, ?_, ?_⟩
          · rw [ea]
            rfl
          · rw [upd_same, lN, lN, List.map_append]
            rfl
          · rw [List.append_assoc, ← hl, er]
            rfl
    · rw [decide_eq_false (show ¬ (0 : Int) < (m : Int) by omega)]
      have z : m = 0 := by omega
      subst z
      have er : rest = [] := hf.unique (first_nil (costs_zero o hst hv))
      rw [er, List.append_nil] at hl
      subst hl
      exact iteF ⟨_, rfl, k H' r s1 hr0 hR⟩
/-! ### conditions_in_the_way -/
def inWay1 (t : Tk) (k f : Nat) : Option Stp := (Pn.at_ (Pn14.loosened t k f).costs t.start).map fun c => (k, f, c)
theorem inWay_is (t : Tk) : Pn14.inWay t = (List.range t.acts.length).flatMap fun k => (factsOf t.facts ((t.act k).pre ||| (t.act k).no)).filterMap (inWay1 t k) := by
  unfold Pn14.inWay
  refine congrArg (fun g => List.flatMap g _) (funext fun k => ?_)
  unfold factsOf
  rw [List.filterMap_filter]
  refine congrArg (fun g => List.filterMap g _) (funext fun f => ?_)
  rw [bit_test, bit_test, Nat.testBit_or]
  cases h : ((t.act k).pre.testBit f || (t.act k).no.testBit f) with
  | false => rfl
  | true => rfl
theorem cut_to {ps : List Addr} {k : Nat} (h : k ≤ ps.length) : cutV (ps.map V.ref) Option.none (some (k : Int)) = (ps.take k).map V.ref := by
  unfold cutV
  rw [HT.sIx_nat]
  show ((ps.map V.ref).drop 0).take (Nat.min k _ - 0) = _
  rw [List.drop_zero, Nat.sub_zero, List.length_map, show Nat.min k ps.length = k from Nat.min_eq_left h, List.map_take]
theorem cut_from {ps : List Addr} {k : Nat} (h : k ≤ ps.length) : cutV (ps.map V.ref) (some (k : Int)) Option.none = (ps.drop k).map V.ref := by
  unfold cutV
  rw [HT.sIx_nat]
  show ((ps.map V.ref).drop (Nat.min k _)).take ((ps.map V.ref).length - Nat.min k _) = _
  rw [List.length_map, show Nat.min k ps.length = k from Nat.min_eq_left h, List.take_of_length_le (by rw [List.length_drop, List.length_map]; exact Nat.le_refl _), List.map_drop]
theorem acts_loosened {H : Hp} {ps : List Addr} {t : Tk} {k f : Nat} {q : Addr} (hA : ActsAt C H ps t.acts) (hk : k < t.acts.length) (hq : ActAt C H q (looser (t.act k) f)) : ActsAt C H (ps.take k ++ [q] ++ ps.drop (k + 1)) (Pn14.loosened t k f).acts := by
  have pl := hA.1
  refine ⟨?_, fun i p e => ?_⟩
  · rw [loosened_length, List.length_append, List.length_append, List.length_take, List.length_drop, List.length_singleton]
    omega
  · have hi : i < t.acts.length := by
      have := (List.getElem?_eq_some_iff.mp e).1
      rw [List.length_append, List.length_append, List.length_take, List.length_drop, List.length_singleton] at this
      omega
    have lt : (ps.take k).length = k := by
      rw [List.length_take]
      omega
    have la : (Pn14.loosened t k f).acts[i]? = some (if i = k then looser (t.act i) f else t.act i) := by
      rw [← loosened_act hi, act_get (by rw [loosened_length]; exact hi), List.getElem?_eq_getElem]
    refine ⟨_, la, ?_⟩
    have old : i ≠ k → ps[i]? = some p → ActAt C H p (if i = k then looser (t.act i) f else t.act i) := by
      intro ne e'
      rw [if_neg ne]
      obtain ⟨a, ha, h⟩ := hA.2 i p e'
      rw [act_get hi, (List.getElem?_eq_some_iff.mp ha).2]
      exact h
    by_cases c1 : i < k
    · rw [List.append_assoc, List.getElem?_append_left (by omega), List.getElem?_take_of_lt c1] at e
      exact old (by omega) e
    · by_cases c2 : i = k
      · subst c2
        rw [List.append_assoc, List.getElem?_append_right (by omega), lt, Nat.sub_self] at e
        rw [if_pos rfl, ← Option.some.inj e]
        exact hq
      · rw [List.getElem?_append_right (by rw [List.length_append, lt, List.length_singleton]; omega), List.length_append, lt, List.length_singleton, List.getElem?_drop, show k + 1 + (i - (k + 1)) = i by omega] at e
        exact old c2 e
def spConditions (C : Addr) : Sp := fun vs H Q _ => ∃ (t : Tk) (la : Addr) (ps : List Addr), vs = [vN t.start, vN t.goal, .ref la, vN t.facts] ∧ Ok t ∧ H la = some (.lst (ps.map V.ref)) ∧ ActsAt C H ps t.acts ∧
  ∀ (H' : Hp) (p : Addr) (ts : List V), Same H H' → H p = none → H' p = some (.lst ts) → Rows TripAt (Pn14.inWay t) ts H' → (Pn14.inWay t).length ≤ 40 → Q (.ref p) H'
theorem scConditions : FnScope ["first", "wanted", "acts", "fact_count", "found", "k", "act", "fact", "others", "costs"] ["first", "wanted", "acts", "fact_count"] (defScope sConditions) := ⟨rfl, rfl, rfl, by decide +kernel, rfl, by decide +kernel, by decide +kernel⟩
theorem ok_conditions {f fF fW fC : Addr} {fd fdF fdW fdC : FuncData} (F : Fun K "conditions_in_the_way" "conditions_in_the_way" sConditions f fd) (T : TxA K C) (enum : mg "enumerate" = none)
    (GF : FnOk P w K mg base CX0 1 fF fdF ["facts"] spFacts) (bF : Binds K fdF ["facts"] []) (mF : mg "facts_in" = some (.ref fF)) (kF : PySem.W.keepIn K (.ref fF) = true)
    (GW : FnOk P w K mg base CX0 3 fW fdW ["self", "fact"] (spWithout C)) (bW : Binds K fdW ["self", "fact"] []) (mW : Meth K C "without_condition" fW)
    (GC : FnOk P w K mg base CX0 4 fC fdC ["wanted", "acts", "fact_count"] (spCostsTo K C)) (bC : Binds K fdC ["wanted", "acts", "fact_count"] []) (mC : mg "costs_to" = some (.ref fC)) (kC : PySem.W.keepIn K (.ref fC) = true) : FnOk P w K mg base CX0 5 f fd ["first", "wanted", "acts", "fact_count"] (spConditions C) := by
  refine F.ok scConditions (fun vs H Q E h => ?_) (fun cdv A outer s H vs Q E hr h => ?_)
  · obtain ⟨t, la, ps, rfl, _⟩ := h
    rfl
  · obtain ⟨t, la, ps, rfl, o, hla, hA, k⟩ := h
    have hu := hu_of hr
    have hr1 : Room 1 _ := hr.mono (by decide)
    have hr3 : Room 3 _ := hr.mono (by decide)
    refine ⟨_, pss_cons (ps_set (i := 4) scConditions.nd rfl (Or.inl rfl) (pe_lst pa_nil))
      (pss_cons (ps_for PassesOwn.never rfl (pi_enum rfl enum (pa_cons (pv 2) pa_nil)) (pg_tup rfl (pgs_cons (pg_name (i := 5) scConditions.nd rfl (Or.inl rfl)) (pgs_cons (pg_name (i := 6) scConditions.nd rfl (Or.inl rfl)) pgs_nil)))
        (pss_one (ps_for PassesOwn.never rfl (pi_list (pe_call GF hr1 rfl mF kF bF .nil pass0 (pa_cons (pe_op op_or (pe_fld (pv 6) rfl) (pe_fld (pv 6) rfl)) pa_nil))) (pg_name (i := 7) scConditions.nd rfl (Or.inl rfl))
          (pss_cons (ps_set (i := 8) scConditions.nd rfl (Or.inl rfl) (pe_op op_cat (pe_op op_cat (pe_slice sl_list (pv 2) po_none (po_some (pv 5))) (pe_lst (pa_cons (pe_meth (pv 6) T.cl mW GW hr3 bW .nil pass0 (pa_cons (pv 7) pa_nil)) pa_nil))) (pe_slice sl_list (pv 2) (po_some (pe_op op_add (pv 5) pe_int)) po_none)))
          (pss_cons (ps_set (i := 9) scConditions.nd rfl (Or.inl rfl) (pe_call GC hr rfl mC kC bC .nil pass0 (pa_cons (pv 1) (pa_cons (pv 8) (pa_cons (pv 3) pa_nil)))))
          (pss_one (ps_if (pt_cmp (pc_din hu (pv 0) (pv 9)))
            (pss_one (ps_expr (pe_bm PySem.F.plainAttrs_list PySem.F.slot_list_append PySem.F.type_list_append mt_append (pv 4) (pa_cons (pe_tup (pa_cons (pv 5) (pa_cons (pv 7) (pa_cons (pe_dget hu (pv 9) (pv 0) (fun _ _ => rfl)) pa_nil)))) pa_nil)))) pss_nil)))))))
      (pss_one (ps_ret (pv 4)))), ?_⟩
    refine ⟨Nat.zero_le _, fun r hr0 => ?_⟩
    have pl := hA.1
    have few := o.few
    have on := o.n
    have nlr : la ≠ r := ne_of_none hla hr0
    have sq0 : SqL K (upd H r (.lst [])) la (ps.map V.ref) := SqL.of (Eq.trans (upd_ne nlr) hla)
    let cond : Nat → List Nat := fun i => factsOf t.facts ((t.act i).pre ||| (t.act i).no)
    have clen : ∀ i, (cond i).length ≤ 5 := fun i => Nat.le_trans (factsOf_len _ _) on
    let row : Nat → List Stp := fun i => (cond i).filterMap (inWay1 t i)
    refine ⟨_, rfl, la, _, rfl, sq0, for_it (walk_enum (xs := ps.map V.ref)) (fun i σ H' => ∃ (ts : List V) (L : List Stp) (v5 v6 v7 v8 v9 : Option V), σ = [some (vN t.start), some (vN t.goal), some (.ref la), some (vN t.facts), some (.ref r), v5, v6, v7, v8, v9] ∧ Same H H' ∧ H' r = some (.lst ts) ∧ Rows TripAt L ts H' ∧ L = (List.range i).flatMap row ∧ L.length ≤ 5 * i)
      ⟨[], [], none, none, none, none, none, rfl, same_new hr0, upd_same, Rows.nil, rfl, Nat.zero_le _⟩ (fun i σ H' _ h => ?_) ?_ ?_⟩
    · obtain ⟨_, _, _, _, _, _, _, _, q, _⟩ := h
      exact q.seq (SqL.of hla)
    · rintro i x σ H' H'' hi ⟨ts, L, v5, v6, v7, v8, v9, rfl, s1, hts, hR, hL, hl⟩ ⟨T0, x0, y0, rfl, nT, rfl, e1, e2⟩
      cases e1
      obtain ⟨pa, hpa, rfl⟩ := ref_get e2
      obtain ⟨a, ha, dx, hax⟩ := hA.2 i pa hpa
      have hil : i < t.acts.length := (List.getElem?_eq_some_iff.mp ha).1
      have ea : t.act i = a := by
        rw [act_get hil]
        exact (List.getElem?_eq_some_iff.mp ha).2
      have s2 : Same H (upd H' T0 (.tup [.int (i : Nat), .ref pa])) := same_upd s1 (s1.free nT)
      have nrT : r ≠ T0 := ne_of_none hts nT
      have hri := right_iff.mp (o.acts a (by rw [← ea]; exact act_mem hil))
      refine ⟨T0, _, rfl, SqT.of upd_same, rfl, _, _, rfl, _, _, rfl, rfl, ?_⟩
      refine ⟨_, rfl, pa, C, dx, _, _, rfl, s2 _ _ hax, T.cl, T.n1, aF_needs a, _, rfl, pa, C, dx, _, _, rfl, s2 _ _ hax, T.cl, T.n2, aF_bars a, _, _, rfl, rfl, a.pre ||| a.no, t.facts, ?_, Nat.or_lt_two_pow hri.1 hri.2.1, on, fun H3 p3 s3 n3 hp3 => ?_⟩
      · show [V.int (Builtin.bitOr (a.pre : Int) (a.no : Int))] = _
        rw [or_nat]
      have s13 := s2.trans s3
      have ec : factsOf t.facts (a.pre ||| a.no) = cond i := by
        show _ = factsOf t.facts ((t.act i).pre ||| (t.act i).no)
        rw [ea]
      rw [ec] at hp3
      have hr3' : H3 r = some (.lst ts) := s3 _ _ (Eq.trans (upd_ne nrT) hts)
      have np3 : H p3 = Option.none := s2.free n3
      have n3r : p3 ≠ r := fun z => by
        rw [z] at n3
        rw [upd_ne nrT, hts] at n3
        cases n3
      have hR3 : Rows TripAt L ts H3 := hR.sameT ((same_upd (Same.refl H') nT).trans s3)
      refine ⟨p3, rfl, ⟨_, SqL.of hp3⟩, for_list (K := K) (a := p3) (xs := lN (cond i)) (fun j σ H' => ∃ (ts : List V) (L : List Stp) (v7 v8 v9 : Option V), σ = [some (vN t.start), some (vN t.goal), some (.ref la), some (vN t.facts), some (.ref r), some (vN i), some (.ref pa), v7, v8, v9] ∧ Same H H' ∧ H' p3 = some (.lst (lN (cond i))) ∧ H' r = some (.lst ts) ∧ Rows TripAt L ts H' ∧ L = (List.range i).flatMap row ++ ((cond i).take j).filterMap (inWay1 t i) ∧ L.length ≤ 5 * i + j)
        ⟨ts, L, v7, v8, v9, rfl, s13, hp3, hr3', hR3, by rw [List.take_zero, List.filterMap_nil, List.append_nil]; exact hL, hl⟩ (fun j σ' H2 _ ⟨_, _, _, _, _, _, _, q, _⟩ => SqL.of q) ?_ ?_⟩
      · rintro j x σ' H4 hx ⟨ts, L, w7, w8, w9, rfl, s4, hp4, hr4, hR4, hL4, hl4⟩
        obtain ⟨y, hy, rfl⟩ := lN_get hx
        have hj : j < (cond i).length := (List.getElem?_eq_some_iff.mp hy).1
        have hjc := clen i
        have ym : y ∈ cond i := List.mem_of_getElem? hy
        have y5 : y ≤ 5 := by
          have := (mem_factsOf.mp ym).1
          omega
        refine ⟨_, rfl, _, rfl, _, rfl, la, _, rfl, s4.seq (SqL.of hla), fun q1 nq1 => ?_⟩
        rw [cut_to (by omega)]
        have s5 := same_upd (o := .lst ((ps.take i).map V.ref)) s4 (s4.free nq1)
        have hax5 := s5 _ _ hax
        refine ⟨_, rfl, pa, dx, _, rfl, hax5, aF_no a (by decide +kernel), _, rfl, pa, a, y, rfl, y5, ⟨dx, hax5⟩, fun H6 q2 s6 nq2 hq2 => ?_⟩
        refine ⟨(by show 1 ≤ sizeLine; decide), fun q3 nq3 => ?_⟩
        have nq13 : q1 ≠ q3 := fun z => by
          rw [← z, s6 _ _ upd_same] at nq3
          cases nq3
        have h61 : H6 q1 = some (.lst ((ps.take i).map V.ref)) := s6 _ _ upd_same
        refine ⟨q1, q3, _, _, rfl, rfl, Eq.trans (upd_ne nq13) h61, upd_same, ?_, fun q4 nq4 => ?_⟩
        · refine Nat.le_of_lt (small1000 ?_)
          rw [List.length_map, List.length_take]
          show _ + 1 ≤ 1000
          omega
        have s6' := s5.trans s6
        have nq3' := s6'.free nq3
        have nq4' := s6'.free (upd_none nq4).2
        have s7 : Same H (upd (upd H6 q3 (.lst [V.ref q2])) q4 (.lst ((ps.take i).map V.ref ++ [V.ref q2]))) := same_upd (same_upd s6' nq3') nq4'
        refine ⟨_, rfl, _, rfl, _, _, rfl, rfl, _, rfl, la, _, rfl, s7.seq (SqL.of hla), fun q5 nq5 => ?_⟩
        rw [show (i : Int) + 1 = ((i + 1 : Nat) : Int) from rfl, cut_from (by omega)]
        have n45 : q4 ≠ q5 := fun z => (upd_none nq5).1 z.symm
        refine ⟨q4, q5, _, _, rfl, rfl, Eq.trans (upd_ne n45) upd_same, upd_same, ?_, fun q6 nq6 => ?_⟩
        · refine Nat.le_of_lt (small1000 ?_)
          rw [List.length_append, List.length_map, List.length_map, List.length_take, List.length_drop]
          show _ + 1 + _ ≤ 1000
          omega
        have nq5' := s7.free nq5
        have s8 := same_upd (o := .lst ((ps.drop (i + 1)).map V.ref)) s7 nq5'
        have nq6' := s8.free nq6
        have s9 := same_upd (o := .lst ((ps.take i).map V.ref ++ [V.ref q2] ++ (ps.drop (i + 1)).map V.ref)) s8 nq6'
        have eo : (ps.take i).map V.ref ++ [V.ref q2] ++ (ps.drop (i + 1)).map V.ref = (ps.take i ++ [q2] ++ ps.drop (i + 1)).map V.ref := by
          rw [List.map_append, List.map_append]
          rfl
        have s69 : Same H6 (upd (upd (upd (upd H6 q3 (.lst [V.ref q2])) q4 (.lst ((ps.take i).map V.ref ++ [V.ref q2]))) q5 (.lst ((ps.drop (i + 1)).map V.ref))) q6 (.lst ((ps.take i).map V.ref ++ [V.ref q2] ++ (ps.drop (i + 1)).map V.ref))) := ((same_new nq3).trans (same_new nq4)).trans ((same_new nq5).trans (same_new nq6))
        have hq9 := hq2.keep fun ob e => s69 _ _ e
        rw [← ea] at hq9
        refine ⟨_, rfl, _, rfl, _, rfl, Pn14.loosened t i y, q6, ps.take i ++ [q2] ++ ps.drop (i + 1), rfl, loosened_ok o i y, SqL.of (by rw [upd_same, eo]), acts_loosened (hA.same s9) hil hq9, fun H7 d D s10 nd hd hT => ?_⟩
        have eT : lk D t.start = Pn.at_ (Pn14.loosened t i y).costs t.start := hT.eq _ o.start
        refine ⟨_, rfl, _, rfl, d, _, rfl, DGet.k (k := Sum.inl (t.start : Int)) hd, _, rfl, ?_⟩
        rw [kvC_val, Option.isSome_map, eT]
        have s11 := s9.trans s10
        have s411 : Same H4 H7 := ((same_upd (o := .lst ((ps.take i).map V.ref)) (Same.refl H4) nq1).trans s6).trans (s69.trans s10)
        have tk : (cond i).take (j + 1) = (cond i).take j ++ [y] := by
          rw [List.take_add_one, hy]
          rfl
        cases ec : Pn.at_ (Pn14.loosened t i y).costs t.start with
        | none =>
          refine iteF ⟨ts, L, _, _, _, rfl, s11, s411 _ _ hp4, s411 _ _ hr4, hR4.sameT s411, ?_, by omega⟩
          rw [tk, List.filterMap_append, ← List.append_assoc, ← hL4]
          have : inWay1 t i y = none := by
            unfold inWay1
            rw [ec]
            rfl
          rw [List.filterMap_cons_none this, List.filterMap_nil, List.append_nil]
        | some c =>
          have g9 : DGet H7 d (vN t.start) (some (vN c)) := .inl ⟨kvC D, Sum.inl (t.start : Int), .inl hd, rfl, by rw [kvC_val, eT, ec]; rfl⟩
          have hr7 := s411 _ _ hr4
          refine iteT ⟨_, rfl, .inl ⟨rfl, _, SqL.of hr7⟩, _, rfl, _, rfl, _, rfl, _, rfl, d, _, rfl, g9, (by show 3 ≤ sizeLine; decide), fun q nq => ?_⟩
          have nrq : r ≠ q := ne_of_none hr7 nq
          refine ⟨r, _, _, rfl, rfl, Eq.trans (upd_ne nrq) hr7, small1000 (by rw [hR4.1]; omega), ?_⟩
          have n3r' : p3 ≠ r := n3r
          have hkeep : ∀ b xs, H7 b = some (.tup xs) → upd (upd H7 q (.tup [vN i, vN y, vN c])) r (.lst (ts ++ [.ref q])) b = some (.tup xs) := fun b xs e => by
            have nbr : b ≠ r := ne_of e hr7 (by intro z; cases z)
            rw [upd_ne nbr, upd_ne (ne_of_none e nq)]
            exact e
          refine ⟨ts ++ [.ref q], L ++ [(i, y, c)], _, _, _, rfl, same_upd (same_upd s11 (s11.free nq)) hr0, ?_, upd_same, ((hR4.sameT s411).keepT hkeep).snoc ⟨q, rfl, by rw [upd_ne nrq.symm, upd_same]⟩, ?_, by rw [List.length_append, List.length_singleton]; omega⟩
          · have e7 := s411 _ _ hp4
            rw [upd_ne n3r', upd_ne (ne_of_none e7 nq)]
            exact e7
          · rw [tk, List.filterMap_append, ← List.append_assoc, ← hL4]
            have : inWay1 t i y = some (i, y, c) := by
              unfold inWay1
              rw [ec]
              rfl
            rw [List.filterMap_cons_some this, List.filterMap_nil]
      · rintro σ' H4 ⟨ts, L, w7, w8, w9, rfl, s4, hp4, hr4, hR4, hL4, hl4⟩
        rw [List.length_map] at hl4
        rw [List.length_map, List.take_length] at hL4
        have hjc := clen i
        refine ⟨ts, L, _, _, _, _, _, rfl, s4, hr4, hR4, ?_, by omega⟩
        rw [List.range_succ, List.flatMap_append, hL4]
        simp [row]
    · rintro σ' H4 ⟨ts, L, w5, w6, w7, w8, w9, rfl, s4, hr4, hR4, hL4, hl4⟩
      rw [List.length_map, pl] at hl4 hL4
      rw [show L = Pn14.inWay t from hL4.trans (inWay_is t).symm] at hR4 hl4
      exact ⟨_, rfl, k H4 r ts s4 hr0 hr4 hR4 (by omega)⟩
end
end Wn

set_option Elab.async false
set_option maxRecDepth 100000
set_option maxHeartbeats 4000000
/-! The house's calls least, otherwise, plan_costs. -/
namespace Wn
open PySem PySem.Spec PyProof.Rows L2
open PySem.W (Datum DatumOrd T3 minOf)
section
variable {X : Cx}
/-- x == y, both data of one Lean type -/
def rEqT (K : PySem.W.Frag) (α : Type) [DecidableEq α] [Datum α] : R2 := fun x y H Q => ∃ a b : α, Dp K H x (Datum.toD a) ∧ Dp K H y (Datum.toD b) ∧ Datum.depth α ≤ 60 ∧ Q (.bl (decide (a = b))) H
theorem op_eqT {α : Type} [DecidableEq α] [Datum α] (hu : X.A.units + 64 < cLine) : OpR X (compareOp .Eq) (rEqT X.K α) := by
  intro pins s σ H x y v u Q I rx ry h
  obtain ⟨a, b, ha, hb, h60, q⟩ := h
  obtain ⟨as, r1⟩ := Dp.reads I _ x v ha rx
  obtain ⟨bs, r2⟩ := Dp.reads I _ y u hb ry
  exact PySem.W.eq_datum ⟨as, r1⟩ ⟨bs, r2⟩ (by omega) ⟨.bl _, H, I, rfl, q⟩
end
/-! ### the order of changes -/
abbrev Chg := T3 Int Int (List Int)
def chg (p l : List Nat) : Chg := ⟨(Pn14.dear p l : Int), (l.length : Int), l.map fun (n : Nat) => (n : Int)⟩
theorem listLt_less : ∀ a b : List Nat, PySem.W.listLt (a.map fun (n : Nat) => (n : Int)) (b.map fun (n : Nat) => (n : Int)) = Pn14.less a b
  | [], [] => rfl
  | [], _ :: _ => rfl
  | _ :: _, [] => rfl
  | x :: a, y :: b => by
    rw [List.map_cons, List.map_cons]
    show (if (x : Int) = (y : Int) then PySem.W.listLt _ _ else decide ((x : Int) < (y : Int))) = (decide (x < y) || (x == y && Pn14.less a b))
    by_cases e : x = y
    · subst e
      rw [if_pos rfl, listLt_less a b, beq_self_eq_true, Bool.true_and, decide_eq_false (Nat.lt_irrefl _), Bool.false_or]
    · rw [if_neg (by omega), beq_eq_false_iff_ne.mpr e, Bool.false_and, Bool.or_false]
      exact decide_eq_decide.mpr (by omega)
theorem chg_lt (p a b : List Nat) : DatumOrd.lt (chg p a) (chg p b) = Pn14.easier p a b := by
  show (if (Pn14.dear p a : Int) = (Pn14.dear p b : Int) then (if (a.length : Int) = (b.length : Int) then PySem.W.listLt (a.map fun (n : Nat) => (n : Int)) (b.map fun (n : Nat) => (n : Int)) else decide ((a.length : Int) < (b.length : Int))) else decide ((Pn14.dear p a : Int) < (Pn14.dear p b : Int))) = _
  rw [listLt_less, Bool.eq_iff_iff, easier_iff]
  by_cases e : Pn14.dear p a = Pn14.dear p b
  · rw [if_pos (by omega)]
    by_cases f : a.length = b.length
    · rw [if_pos (by omega)]
      constructor
      · exact fun h => .inr ⟨e, .inr ⟨f, h⟩⟩
      · rintro (h | ⟨_, h | h⟩)
        · omega
        · omega
        · exact h.2
    · rw [if_neg (by omega), decide_eq_true_eq]
      constructor
      · exact fun h => .inr ⟨e, .inl (by omega)⟩
      · rintro (h | ⟨_, h | h⟩)
        · omega
        · omega
        · exact absurd h.1 f
  · rw [if_neg (by omega), decide_eq_true_eq]
    constructor
    · exact fun h => .inl (by omega)
    · rintro (h | h)
      · omega
      · exact absurd h.1 e
theorem chg_inj {p a b : List Nat} (h : chg p a = chg p b) : a = b := by
  have e : a.map (fun (n : Nat) => (n : Int)) = b.map fun (n : Nat) => (n : Int) := congrArg T3.c h
  have := congrArg (List.map Int.toNat) e
  rw [List.map_map, List.map_map] at this
  have i : (Int.toNat ∘ fun (n : Nat) => (n : Int)) = id := funext fun n => Int.toNat_natCast n
  rwa [i, List.map_id, List.map_id] at this
theorem min_keep (p : List Nat) : ∀ (L : List (List Nat)) (b : List Nat), ∃ r, L.foldl (keepEasier p) (some b) = some r ∧ minOf (chg p b) (L.map (chg p)) = chg p r
  | [], b => ⟨b, rfl, rfl⟩
  | l :: L, b => by
    unfold minOf
    rw [List.map_cons, List.foldl_cons, List.foldl_cons, chg_lt]
    show ∃ r, L.foldl (keepEasier p) (if Pn14.easier p l b = true then some l else some b) = some r ∧ _
    by_cases c : Pn14.easier p l b = true
    · rw [if_pos c, if_pos c]
      exact min_keep p L l
    · rw [if_neg c, if_neg c]
      exact min_keep p L b
theorem min_is {p : List Nat} {L : List (List Nat)} {b l : List Nat} (h : chg p l = minOf (chg p b) (L.map (chg p))) : l ∈ b :: L ∧ ∀ x ∈ b :: L, x = l ∨ Pn14.easier p l x = true := by
  obtain ⟨r, e1, e2⟩ := min_keep p L b
  rw [e2] at h
  rw [chg_inj h]
  have : (b :: L).foldl (keepEasier p) none = some r := e1
  exact keep_is.mp this
/-- a change's tuple and its list -/
def ChgAt (p l : List Nat) (v : V) (H : Hp) : Prop := ∃ q a, v = .ref q ∧ H q = some (.tup [vN (Pn14.dear p l), vN l.length, .ref a]) ∧ H a = some (.lst (lN l))
theorem dp_ints {K : PySem.W.Frag} {H : Hp} : ∀ l : List Nat, DpAll K H (lN l) ((l.map fun (n : Nat) => (n : Int)).map PyData.int)
  | [] => .nil
  | _ :: l => .cons (.int _) (dp_ints l)
theorem ChgAt.dp {K : PySem.W.Frag} {p l : List Nat} {v : V} {H : Hp} (h : ChgAt p l v H) : Dp K H v (Datum.toD (chg p l)) := by
  obtain ⟨q, a, rfl, h1, h2⟩ := h
  refine .tup (ds := [.int _, .int _, .list _]) (SqT.of h1) (.cons (.int _) (.cons (.int _) (.cons (.lst (SqL.of h2) (dp_ints l)) .nil)))
theorem dp_chgs {K : PySem.W.Frag} {p : List Nat} {H : Hp} : ∀ {L : List (List Nat)} {vs : List V}, Rows (ChgAt p) L vs H → DpAll K H vs ((L.map (chg p)).map Datum.toD)
  | [], vs, h => by
    have : vs = [] := List.eq_nil_of_length_eq_zero h.1
    subst this
    exact .nil
  | l :: L, [], h => by cases h.1
  | l :: L, v :: vs, h => by
    refine .cons (h.2 0 l v rfl rfl).dp (dp_chgs ⟨Nat.succ.inj h.1, fun k i u e1 e2 => h.2 (k + 1) i u ?_ ?_⟩)
    · simpa using e1
    · simpa using e2
/-! ### promises -/
def spLeast (C CA : Addr) : Sp := fun vs H Q _ => ∃ (h la lp : Addr) (s : Pn14.House), vs = [.ref h] ∧ HouseAt C CA H h la lp s ∧ HOk s ∧ After C CA H h la lp (Pn14.step s .least) Q
def spOtherwise (C CA : Addr) : Sp := fun vs H Q _ => ∃ (h la lp : Addr) (s : Pn14.House), vs = [.ref h] ∧ HouseAt C CA H h la lp s ∧ HOk s ∧ After C CA H h la lp (Pn14.step s .otherwise) Q
def spPlanCosts (C CA : Addr) : Sp := fun vs H Q _ => ∃ (h la lp : Addr) (s : Pn14.House), vs = [.ref h] ∧ HouseAt C CA H h la lp s ∧ HOk s ∧
  ∀ (H' : Hp) (p : Addr) (D : List (Nat × Nat)), Same H H' → H p = none → H' p = some (.dK (kvC D)) → Told (2 ^ s.task.facts) D (Pn.at_ s.task.costs) → Q (.ref p) H'
/-- an answer that leaves the house as it is -/
theorem After.yes {C CA : Addr} {H H' : Hp} {h la lp p : Addr} {s : Pn14.House} {v : Int} {l : List Nat} {Q : VK} (a : After C CA H h la lp (s, ⟨v, l⟩) Q) (hh : HouseAt C CA H h la lp s) (e : Same H H') (hp : H p = Option.none) (q : H' p = some (.lst (.int v :: lN l))) : Q (.ref p) H' := by
  refine a H' p la lp (hh.same e) (.inl rfl) (.inl rfl) (.of e) hp ?_
  rw [q]
  show some (HO.lst (V.int v :: lN l)) = some (HO.lst (V.int v :: (l.map fun (n : Nat) => (n : Int)).map V.int))
  rw [List.map_map]
  rfl
section
variable {P : Program} {w : World} {K : PySem.W.Frag} {mg : Str → Option Value} {base : Heap} {C CA : Addr}
theorem scPlanCosts : FnScope ["self"] ["self"] (defScope sPlanCosts) := ⟨rfl, rfl, rfl, by decide +kernel, rfl, by decide +kernel, by decide +kernel⟩
theorem ok_planCosts {f fC : Addr} {fd fdC : FuncData} (F : Fun K "plan_costs" "House.plan_costs" sPlanCosts f fd) (T : TxH K C)
    (GC : FnOk P w K mg base CX0 4 fC fdC ["wanted", "acts", "fact_count"] (spCostsTo K CA)) (bC : Binds K fdC ["wanted", "acts", "fact_count"] []) (mC : mg "costs_to" = some (.ref fC)) (kC : PySem.W.keepIn K (.ref fC) = true) : FnOk P w K mg base CX0 5 f fd ["self"] (spPlanCosts C CA) := by
  refine F.ok scPlanCosts (fun vs H Q E h => ?_) (fun cdv A outer s H vs Q E hr h => ?_)
  · obtain ⟨h, la, lp, s, rfl, _⟩ := h
    rfl
  · obtain ⟨h, la, lp, st, rfl, hh, ho, k⟩ := h
    refine ⟨_, pss_one (ps_ret (pe_call GC hr rfl mC kC bC .nil pass0 (pa_cons (pe_fld (pv 0) rfl) (pa_cons (pe_fld (pv 0) rfl) (pa_cons (pe_fld (pv 0) rfl) pa_nil))))), ?_⟩
    obtain ⟨dx, ps, h1, h2, h3, h4, h5⟩ := id hh
    exact ⟨_, rfl, h, C, dx, _, _, rfl, h1, T.cl, T.n3, hF_wanted _ _ _, _, rfl, h, C, dx, _, _, rfl, h1, T.cl, T.n4, hF_acts _ _ _, _, rfl, h, C, dx, _, _, rfl, h1, T.cl, T.n1, hF_count _ _ _, st.task, la, ps, rfl, ho.t, SqL.of h2, h4, k⟩
theorem scLeast : FnScope ["self", "sets"] ["self"] (defScope sLeast) := ⟨rfl, rfl, rfl, by decide +kernel, rfl, by decide +kernel, by decide +kernel⟩
theorem ok_least {f fR fG : Addr} {fd fdR fdG : FuncData} (F : Fun K "least" "House.least" sLeast f fd) (T : TxH K C) (len : mg "len" = none)
    (GR : FnOk P w K mg base CX0 3 fR fdR ["first", "acts"] (spReached K CA)) (bR : Binds K fdR ["first", "acts"] []) (mR : mg "reached_states" = some (.ref fR)) (kR : PySem.W.keepIn K (.ref fR) = true)
    (GG : FnOk P w K mg base CX0 4 fG fdG ["reached", "wanted"] (spLeastSets K)) (bG : Binds K fdG ["reached", "wanted"] []) (mG : mg "least_sets" = some (.ref fG)) (kG : PySem.W.keepIn K (.ref fG) = true) : FnOk P w K mg base CX0 5 f fd ["self"] (spLeast C CA) := by
  refine F.ok scLeast (fun vs H Q E h => ?_) (fun cdv A outer s H vs Q E hr h => ?_)
  · obtain ⟨h, la, lp, s, rfl, _⟩ := h
    rfl
  · obtain ⟨h, la, lp, st, rfl, hh, ho, k⟩ := h
    refine ⟨_, pss_cons (ps_set (i := 1) scLeast.nd rfl (Or.inl rfl) (pe_call GG hr rfl mG kG bG .nil pass0 (pa_cons (pe_call GR (hr.mono (by decide)) rfl mR kR bR .nil pass0 (pa_cons (pe_fld (pv 0) rfl) (pa_cons (pe_fld (pv 0) rfl) pa_nil))) (pa_cons (pe_fld (pv 0) rfl) pa_nil))))
      (pss_one (ps_ret (pe_op op_cat (pe_lst (pa_cons (pe_callB call_len_seq (by rfl) len PySem.boot_len (pa_cons (pv 1) pa_nil)) pa_nil)) (pv 1)))), ?_⟩
    obtain ⟨dx, ps, h1, h2, h3, h4, h5⟩ := id hh
    refine ⟨_, rfl, h, C, dx, _, _, rfl, h1, T.cl, T.n2, hF_first _ _ _, _, rfl, h, C, dx, _, _, rfl, h1, T.cl, T.n4, hF_acts _ _ _, st.task, st.task.start, la, ps, rfl, ho.t, ho.t.start, SqL.of h2, h4, fun H1 p1 R s1 n1 hp1 nd hR => ?_⟩
    have hRl : R.length ≤ 32 := by
      have := nodup_length (S := List.range (2 ^ st.task.facts)) nd fun x hx => List.mem_range.mpr (((hR x).mp hx).lt ho.t ho.t.start)
      rw [List.length_range] at this
      have := two32 ho.t.n
      omega
    refine ⟨_, rfl, h, C, dx, _, _, rfl, s1 _ _ h1, T.cl, T.n3, hF_wanted _ _ _, st.task, p1, R, rfl, ho.t, SqL.of hp1, hRl, hR, fun H2 p2 s2 n2 hp2 => ?_⟩
    refine ⟨_, rfl, p2, _, rfl, .inl (SqL.of hp2), (by show 1 ≤ sizeLine; decide), fun p3 n3 => ?_⟩
    have s3 := s1.trans s2
    have n23 : p2 ≠ p3 := ne_of_none hp2 n3
    have hGl : (Pn14.least st.task).length ≤ 32 := by
      have nd2 : (Pn14.least st.task).Nodup := (rise_least st.task).imp fun h => Nat.ne_of_lt h
      have := nodup_length (S := List.range (2 ^ st.task.facts)) nd2 fun x hx => List.mem_range.mpr (Nat.lt_of_le_of_lt (within_le ((mem_least ho.t).mp hx).1.1) ho.t.goal)
      rw [List.length_range] at this
      have := two32 ho.t.n
      omega
    refine ⟨_, rfl, p3, p2, _, _, rfl, rfl, upd_same, Eq.trans (upd_ne n23) hp2, ?_, fun p hp => ?_⟩
    · refine Nat.le_of_lt (small1000 ?_)
      rw [List.length_map]
      show 1 + _ ≤ 1000
      omega
    have p0 := upd_none hp
    have np := s3.free p0.2
    refine After.yes (v := ((Pn14.least st.task).length : Nat)) (l := Pn14.least st.task) k hh (same_upd (same_upd s3 (s3.free n3)) np) np ?_
    rw [upd_same, List.length_map]
    rfl
theorem scOtherwise : FnScope ["self", "changes", "state", "cheapest"] ["self"] (defScope sOtherwise) := ⟨rfl, rfl, rfl, by decide +kernel, rfl, by decide +kernel, by decide +kernel⟩
theorem ok_otherwise {f fP fC : Addr} {fd fdP fdC : FuncData} (F : Fun K "otherwise" "House.otherwise" sOtherwise f fd) (T : TxH K C) (min : mg "min" = none) (np : Cn mg "NO_PLAN" (-6))
    (GP : FnOk P w K mg base CX0 5 fP fdP ["self"] (spPlanCosts C CA)) (bP : Binds K fdP ["self"] []) (mP : Meth K C "plan_costs" fP)
    (GC : FnOk P w K mg base CX0 2 fC fdC ["state", "first", "price_list"] (spChange K)) (bC : Binds K fdC ["state", "first", "price_list"] []) (mC : mg "change_to" = some (.ref fC)) (kC : PySem.W.keepIn K (.ref fC) = true) : FnOk P w K mg base CX0 6 f fd ["self"] (spOtherwise C CA) := by
  refine F.ok scOtherwise (fun vs H Q E h => ?_) (fun cdv A outer s H vs Q E hr h => ?_)
  · obtain ⟨h, la, lp, s, rfl, _⟩ := h
    rfl
  · obtain ⟨h, la, lp, st, rfl, hh, ho, k⟩ := h
    have hr2 : Room 2 _ := hr.mono (by decide)
    refine ⟨_, pss_cons (ps_setLc (i := 1) (own := [("state", 2)]) (g := gName 2) (tt := tYes) (te := tCall (spChange K) [] E0 (tCons (tVar 2) (tCons (tFld K (tVar 0) "first") (tCons (tFld K (tVar 0) "price_list") tNil)))) rfl scOtherwise.nd rfl rfl (sw_true rfl rfl rfl (by decide +kernel)) (pi_keys (pe_lockN (pe_meth0 (pv 0) T.cl mP GP hr bP .nil pass0))) (blkOk_by (N := ["self", "changes", "state", "cheapest"]) (sc := defScope sOtherwise) (by decide +kernel))
        (fun _ _ _ _ _ => pg_name (i := 2) scOtherwise.nd rfl (Or.inl rfl)) (fun _ _ _ _ _ => pts_nil)
        (fun _ _ _ _ _ => pe_call GC hr2 rfl mC kC bC .nil pass0 (pa_cons (pv 2) (pa_cons (pe_fld (pv 0) rfl) (pa_cons (pe_fld (pv 0) rfl) pa_nil)))))
      (pss_cons (ps_if (pt_cmpR (op_eqT (α := List Chg) hr.units) (pv 1) (pe_lst pa_nil) (nomark _)) (pss_one (ps_ret (pe_lst (pa_cons (pe_cn np) pa_nil)))) pss_nil)
      (pss_cons (ps_set (i := 3) scOtherwise.nd rfl (Or.inl rfl) (pe_callB (cr_minD (α := Chg) rfl hr.units) (by rfl) min (by decide +kernel) (pa_cons (pv 1) pa_nil)))
      (pss_one (ps_ret (pe_op op_cat (pe_lst (pa_cons (pe_ix ix_tup (pv 3) pe_int (fun _ _ => rfl)) pa_nil)) (pe_ix ix_tup (pv 3) pe_int (fun _ _ => rfl))))))), ?_⟩
    obtain ⟨dx, ps, h1, h2, h3, h4, h5⟩ := id hh
    have o := ho.t
    have p2 := two32 o.n
    refine ⟨_, rfl, h, dx, _, rfl, h1, hF_no _ _ _ (by decide +kernel), h, la, lp, st, rfl, hh, ho, fun H1 d D s1 nd hd hT => ?_⟩
    refine ⟨d, _, hd, trivial, fun od => ⟨d, od, rfl, .inl ⟨_, upd_same, fun D0 hD0 => ?_⟩⟩⟩
    have sl : Same H (upd H1 d (.frz od (.dK (kvC D)))) := same_upd s1 nd
    have dl : D.length ≤ 32 := Nat.le_trans (keys_length hT.nd hT.lt) p2
    refine lc_w walk_keys (fun _ => true) (fun i v H => ∀ s x, D[i]? = some (s, x) → ChgAt st.prices (factsOf st.task.facts (st.task.start ^^^ s)) v H) hD0 (fun H2 s2 => s2 _ _ upd_same) (by rw [kvC_length]; omega) ?_ ?_
    · rintro i x H2 H3 Yes No hi s2 ⟨e1, kk, vv, hk, rfl⟩ no yes
      rw [e1]
      rw [kvC_length] at hi
      obtain ⟨sx, hsx⟩ : ∃ sx, D[i]? = some sx := ⟨_, List.getElem?_eq_getElem hi⟩
      obtain ⟨u, x⟩ := sx
      have hk' : (kvC D)[i]? = some (Sum.inl (u : Int), vN x) := by
        unfold kvC
        rw [List.getElem?_map, hsx]
        rfl
      rw [hk'] at hk
      cases hk
      have hu : u < 2 ^ st.task.facts := hT.lt u (List.mem_map.mpr ⟨_, List.mem_of_getElem? hsx, rfl⟩)
      have s02 := sl.trans s2
      refine ⟨rfl, ?_⟩
      show if true = true then _ else No H2
      refine iteT ⟨_, rfl, _, rfl, h, C, dx, _, _, rfl, s02 _ _ h1, T.cl, T.n2, hF_first _ _ _, _, rfl, h, C, dx, _, _, rfl, s02 _ _ h1, T.cl, T.n5, hF_prices _ _ _, u, st.task.start, st.task.facts, lp, st.prices, rfl, hu, o.start, o.n, SqL.of (s02 _ _ h3), ho.len, fun H4 q l s4 nq nl nql hq hl => ?_⟩
      refine yes rfl _ H4 s4 fun H5 n5 u' x' e => ?_
      rw [hsx] at e
      cases e
      exact ⟨q, l, rfl, n5 _ _ nq hq, n5 _ _ nl hl⟩
    · intro H2 us s2 hus hR
      have hR := hR
      rw [List.filter_eq_self.mpr (fun _ _ => rfl)] at hR
      have s02 := sl.trans s2
      let L : List (List Nat) := D.map fun p => factsOf st.task.facts (st.task.start ^^^ p.1)
      have RL : ∀ H5, Same H2 H5 → Rows (ChgAt st.prices) L us H5 := by
        intro H5 s5
        have q := hR H5 fun b o _ e => s5 _ _ e
        have ql := q.1
        rw [List.length_range, kvC_length] at ql
        refine ⟨by show _ = (D.map _).length; rw [List.length_map]; exact ql, fun j l v e1 e2 => ?_⟩
        have e1 : (D.map fun p => factsOf st.task.facts (st.task.start ^^^ p.1))[j]? = some l := e1
        rw [List.getElem?_map] at e1
        cases e : D[j]? with
        | none =>
          rw [e] at e1
          cases e1
        | some z =>
          obtain ⟨u, x⟩ := z
          rw [e] at e1
          cases e1
          exact q.2 j j v (List.getElem?_range (by rw [kvC_length]; exact (List.getElem?_eq_some_iff.mp e).1)) e2 u x e
      refine ⟨_, rfl, Nat.zero_le _, fun e0 ne0 => ?_⟩
      have s3 : Same H2 (upd H2 e0 (.lst [])) := same_new ne0
      have s03 := s02.trans s3
      refine ⟨L.map (chg st.prices), [], .lst (SqL.of (s3 _ _ hus)) (dp_chgs (RL _ s3)), .lst (SqL.of upd_same) .nil, (by decide), _, rfl, ?_⟩
      have mem : ∀ u, u < 2 ^ st.task.facts → (u ∈ D.map (·.1) ↔ Can st.task u) := by
        intro u hu
        rw [← can_costs o hu, ← hT.eq u hu]
        have := @lk_none D u
        cases e : lk D u with
        | none =>
          rw [e] at this
          exact ⟨fun h => absurd h (this.mp rfl), fun h => by cases h⟩
        | some v =>
          exact ⟨fun _ => rfl, fun _ => List.mem_map.mpr ⟨_, lk_some_mem e, rfl⟩⟩
      by_cases hD : D = []
      · have e : decide (L.map (chg st.prices) = []) = true := decide_eq_true (by show (D.map _).map _ = []; rw [hD]; rfl)
        rw [e]
        refine iteT ⟨(by show 1 ≤ sizeLine; decide), fun p hp => ?_⟩
        have es : Pn14.step st .otherwise = (st, Pn14.ok (-6)) := by
          show (st, match Pn14.otherwise st.task st.prices with | none => Pn14.ok (-6) | some l => ⟨(Pn14.dear st.prices l : Nat), l⟩) = _
          rw [(otherwise_none o).mpr fun x hx hc => ?_]
          have := (mem _ (xor_lt o.start hx)).mpr hc
          rw [hD] at this
          cases this
        rw [es] at k
        exact k.no hh (same_upd s03 (s03.free hp)) (s03.free hp) upd_same
      · obtain ⟨⟨u0, x0⟩, D', hD'⟩ : ∃ z D', D = z :: D' := by
          cases D with
          | nil => exact absurd rfl hD
          | cons z D' => exact ⟨z, D', rfl⟩
        have eL : L = factsOf st.task.facts (st.task.start ^^^ u0) :: D'.map (fun p => factsOf st.task.facts (st.task.start ^^^ p.1)) := by
          show D.map _ = _
          rw [hD']
          rfl
        have e : decide (L.map (chg st.prices) = []) = false := decide_eq_false (by rw [eL]; intro z; cases z)
        rw [e]
        refine iteF ⟨_, rfl, D0, us, chg st.prices (factsOf st.task.facts (st.task.start ^^^ u0)), (D'.map (fun p => factsOf st.task.facts (st.task.start ^^^ p.1))).map (chg st.prices), rfl, SqL.of (s3 _ _ hus), ?_, (by decide), fun i v hv hmin => ?_⟩
        · rw [← List.map_cons, ← eL]
          exact dp_chgs (RL _ s3)
        have R3 := RL _ s3
        obtain ⟨l, hl, q, a, rfl, hq, ha⟩ := R3.mem hv
        have hl' : l = factsOf st.task.facts (st.task.start ^^^ u0) ∨ True := .inr trivial
        have hmin' : chg st.prices l = minOf (chg st.prices (factsOf st.task.facts (st.task.start ^^^ u0))) ((D'.map (fun p => factsOf st.task.facts (st.task.start ^^^ p.1))).map (chg st.prices)) := by
          rw [← List.map_cons, ← eL, List.getElem?_map, hl] at hmin
          exact Option.some.inj hmin
        obtain ⟨m1, m2⟩ := min_is hmin'
        rw [← eL] at m1 m2
        have m1 : l ∈ D.map fun p => factsOf st.task.facts (st.task.start ^^^ p.1) := m1
        obtain ⟨⟨u, xu⟩, hu, rfl⟩ := List.mem_map.mp m1
        have hult : u < 2 ^ st.task.facts := hT.lt u (List.mem_map.mpr ⟨_, hu, rfl⟩)
        have os : Pn14.otherwise st.task st.prices = some (factsOf st.task.facts (st.task.start ^^^ u)) := by
          refine (otherwise_some o).mpr ⟨st.task.start ^^^ u, xor_lt o.start hult, ?_, rfl, fun y hy hc => ?_⟩
          · rw [xor_back]
            exact (mem u hult).mp (List.mem_map.mpr ⟨_, hu, rfl⟩)
          · have hm := (mem _ (xor_lt o.start hy)).mpr hc
            obtain ⟨⟨u', xu'⟩, hu', e'⟩ := List.mem_map.mp hm
            have e' : u' = st.task.start ^^^ y := e'
            have := m2 (factsOf st.task.facts (st.task.start ^^^ u')) (show _ ∈ D.map _ from List.mem_map.mpr ⟨_, hu', rfl⟩)
            rw [e', xor_back] at this
            exact this.imp (fun z => factsOf_inj hy (xor_lt o.start hult) z) id
        have es : Pn14.step st .otherwise = (st, ⟨(Pn14.dear st.prices (factsOf st.task.facts (st.task.start ^^^ u)) : Nat), factsOf st.task.facts (st.task.start ^^^ u)⟩) := by
          show (st, match Pn14.otherwise st.task st.prices with | none => Pn14.ok (-6) | some l => ⟨(Pn14.dear st.prices l : Nat), l⟩) = _
          rw [os]
        rw [es] at k
        refine ⟨_, rfl, q, _, _, _, rfl, rfl, SqT.of hq, rfl, (by show 1 ≤ sizeLine; decide), fun r nr => ?_⟩
        have nqr : q ≠ r := ne_of_none hq nr
        have nar : a ≠ r := ne_of_none ha nr
        refine ⟨_, rfl, q, _, _, _, rfl, rfl, SqT.of (Eq.trans (upd_ne nqr) hq), rfl, r, a, _, _, rfl, rfl, upd_same, Eq.trans (upd_ne nar) ha, ?_, fun p hp => ?_⟩
        · refine Nat.le_of_lt (small1000 ?_)
          rw [List.length_map]
          have := factsOf_len st.task.facts (st.task.start ^^^ u)
          have := o.n
          show 1 + (factsOf st.task.facts (st.task.start ^^^ u)).length ≤ 1000
          omega
        · have p0 := upd_none hp
          have np := s03.free p0.2
          exact After.yes k hh (same_upd (same_upd s03 (s03.free nr)) np) np upd_same
end
end Wn

set_option Elab.async false
set_option maxRecDepth 100000
set_option maxHeartbeats 4000000
/-! The house's calls inway, why, plan. -/
namespace Wn
open PySem PySem.Spec PyProof.Rows L2
def spInway (C CA : Addr) : Sp := fun vs H Q _ => ∃ (h la lp : Addr) (s : Pn14.House), vs = [.ref h] ∧ HouseAt C CA H h la lp s ∧ HOk s ∧ After C CA H h la lp (Pn14.step s .inWay) Q
def spWhy (C CA : Addr) : Sp := fun vs H Q _ => ∃ (h la lp : Addr) (s : Pn14.House) (k : Nat), vs = [.ref h, vN k] ∧ HouseAt C CA H h la lp s ∧ HOk s ∧ After C CA H h la lp (Pn14.step s (.why k)) Q
def spPlan (C CA : Addr) : Sp := fun vs H Q _ => ∃ (h la lp : Addr) (s : Pn14.House), vs = [.ref h] ∧ HouseAt C CA H h la lp s ∧ HOk s ∧ After C CA H h la lp (Pn14.step s .plan) Q
theorem with_le {t : Tk} (o : Ok t) {k : Nat} (hk : k < t.acts.length) {D1 D2 : List (Nat × Nat)} (h1 : Told (2 ^ t.facts) D1 (Pn.at_ (Pn14.fromStart t))) (h2 : Told (2 ^ t.facts) D2 (Pn.at_ t.costs)) {L : List Nat} (hL : ∀ c, c ∈ L ↔ through (t.act k) D1 D2 c) (c : Nat) : Le (Pn14.withAct t k) c ↔ ∃ v ∈ L, v ≤ c := by
  rw [le_withAct o]
  constructor
  · rintro ⟨l, hp, hm, hc⟩
    obtain ⟨l1, l2, rfl⟩ := List.append_of_mem hm
    obtain ⟨u, hg, hd⟩ := plan_iff.mp hp
    obtain ⟨s, g1, g2⟩ := goes_append.mp hg
    obtain ⟨hc', g3⟩ := goes_cons.mp g2
    have hs := goes_lt o o.start g1
    have ht := o.then_lt hs hc'
    obtain ⟨x, e1, x1⟩ := (fromStart_le o hs _).mpr ⟨l1, g1, Nat.le_refl _⟩
    obtain ⟨y, e2, y1⟩ := (costs_le o ht _).mpr ⟨l2, plan_iff.mpr ⟨u, g3, hd⟩, Nat.le_refl _⟩
    refine ⟨x + (t.act k).cost + y, (hL _).mpr ⟨s, x, y, (h1.eq s hs).trans e1, (can_iff.mp hc').2, (h2.eq _ ht).trans e2, rfl⟩, ?_⟩
    rw [price_append, price_cons] at hc
    omega
  · rintro ⟨v, hv, hc⟩
    obtain ⟨s, x, y, e1, hm, e2, rfl⟩ := (hL v).mp hv
    obtain ⟨hs, e1⟩ := h1.of e1
    obtain ⟨ht, e2⟩ := h2.of e2
    obtain ⟨l1, g1, p1⟩ := (fromStart_le o hs x).mp ⟨x, e1, Nat.le_refl _⟩
    obtain ⟨l2, g2, p2⟩ := (costs_le o ht y).mp ⟨y, e2, Nat.le_refl _⟩
    obtain ⟨u, g3, hd⟩ := plan_iff.mp g2
    refine ⟨l1 ++ k :: l2, plan_iff.mpr ⟨u, goes_append.mpr ⟨s, g1, goes_cons.mpr ⟨can_iff.mpr ⟨hk, hm⟩, g3⟩⟩, hd⟩, List.mem_append_right _ List.mem_cons_self, ?_⟩
    rw [price_append, price_cons]
    omega
theorem begin_le {t : Tk} (o : Ok t) {k : Nat} (hk : k < t.acts.length) {D2 : List (Nat × Nat)} (h2 : Told (2 ^ t.facts) D2 (Pn.at_ t.costs)) {L : List Nat} (hL : ∀ c, c ∈ L ↔ through (t.act k) [(t.start, 0)] D2 c) (c : Nat) : Le (Pn14.beginning t k) c ↔ ∃ v ∈ L, v ≤ c := by
  rw [le_beginning o]
  constructor
  · rintro ⟨l, hp, hc⟩
    obtain ⟨u, hg, hd⟩ := plan_iff.mp hp
    obtain ⟨hc', g3⟩ := goes_cons.mp hg
    have ht := o.then_lt o.start hc'
    obtain ⟨y, e2, y1⟩ := (costs_le o ht _).mpr ⟨l, plan_iff.mpr ⟨u, g3, hd⟩, Nat.le_refl _⟩
    refine ⟨0 + (t.act k).cost + y, (hL _).mpr ⟨t.start, 0, y, lk_pos rfl, (can_iff.mp hc').2, (h2.eq _ ht).trans e2, rfl⟩, ?_⟩
    rw [price_cons] at hc
    omega
  · rintro ⟨v, hv, hc⟩
    obtain ⟨s, x, y, e1, hm, e2, rfl⟩ := (hL v).mp hv
    have m := lk_some_mem e1
    cases List.mem_singleton.mp m
    obtain ⟨ht, e2⟩ := h2.of e2
    obtain ⟨l2, g2, p2⟩ := (costs_le o ht y).mp ⟨y, e2, Nat.le_refl _⟩
    obtain ⟨u, g3, hd⟩ := plan_iff.mp g2
    refine ⟨l2, plan_iff.mpr ⟨u, goes_cons.mpr ⟨can_iff.mpr ⟨hk, hm⟩, g3⟩, hd⟩, ?_⟩
    rw [price_cons]
    omega
section
variable {P : Program} {w : World} {K : PySem.W.Frag} {mg : Str → Option Value} {base : Heap} {C CA : Addr}
theorem scInway : FnScope ["self", "conditions", "answer", "condition"] ["self"] (defScope sInway) := ⟨rfl, rfl, rfl, by decide +kernel, rfl, by decide +kernel, by decide +kernel⟩
theorem ok_inway {f fP fD : Addr} {fd fdP fdD : FuncData} (F : Fun K "inway" "House.inway" sInway f fd) (T : TxH K C) (len : mg "len" = none) (tp : Cn mg "THERE_IS_A_PLAN" (-3))
    (GP : FnOk P w K mg base CX0 5 fP fdP ["self"] (spPlanCosts C CA)) (bP : Binds K fdP ["self"] []) (mP : Meth K C "plan_costs" fP)
    (GD : FnOk P w K mg base CX0 5 fD fdD ["first", "wanted", "acts", "fact_count"] (spConditions CA)) (bD : Binds K fdD ["first", "wanted", "acts", "fact_count"] []) (mD : mg "conditions_in_the_way" = some (.ref fD)) (kD : PySem.W.keepIn K (.ref fD) = true) : FnOk P w K mg base CX0 6 f fd ["self"] (spInway C CA) := by
  refine F.ok scInway (fun vs H Q E h => ?_) (fun cdv A outer s H vs Q E hr h => ?_)
  · obtain ⟨h, la, lp, s, rfl, _⟩ := h
    rfl
  · obtain ⟨h, la, lp, st, rfl, hh, ho, k⟩ := h
    have hu := hu_of hr
    refine ⟨_, pss_cons (ps_if (pt_cmp (pc_din hu (pe_fld (pv 0) rfl) (pe_meth0 (pv 0) T.cl mP GP hr bP .nil pass0))) (pss_one (ps_ret (pe_lst (pa_cons (pe_cn tp) pa_nil)))) pss_nil)
      (pss_cons (ps_set (i := 1) scInway.nd rfl (Or.inl rfl) (pe_call GD hr rfl mD kD bD .nil pass0 (pa_cons (pe_fld (pv 0) rfl) (pa_cons (pe_fld (pv 0) rfl) (pa_cons (pe_fld (pv 0) rfl) (pa_cons (pe_fld (pv 0) rfl) pa_nil))))))
      (pss_cons (ps_set (i := 2) scInway.nd rfl (Or.inl rfl) (pe_lst (pa_cons (pe_callB call_len_seq (by rfl) len PySem.boot_len (pa_cons (pv 1) pa_nil)) pa_nil)))
      (pss_cons (ps_for PassesOwn.never rfl (pi_list (pv 1)) (pg_name (i := 3) scInway.nd rfl (Or.inl rfl)) (pss_one (ps_expr (pe_bm PySem.F.plainAttrs_list PySem.F.slot_list_extend PySem.F.type_list_extend mt_extT (pv 2) (pa_cons (pv 3) pa_nil)))))
      (pss_one (ps_ret (pv 2)))))), ?_⟩
    obtain ⟨dx, ps, h1, h2, h3, h4, h5⟩ := id hh
    have o := ho.t
    refine ⟨_, rfl, h, C, dx, _, _, rfl, h1, T.cl, T.n2, hF_first _ _ _, _, rfl, h, dx, _, rfl, h1, hF_no _ _ _ (by decide +kernel), h, la, lp, st, rfl, hh, ho, fun H1 d D s1 nd hd hT => ?_⟩
    refine ⟨d, _, rfl, DGet.k (k := Sum.inl (st.task.start : Int)) hd, _, rfl, ?_⟩
    have eT : lk D st.task.start = Pn.at_ st.task.costs st.task.start := hT.eq _ o.start
    rw [kvC_val, Option.isSome_map, eT]
    have es : Pn14.step st .inWay = if (Pn.at_ st.task.costs st.task.start).isSome = true then (st, Pn14.ok (-3)) else (st, ⟨((Pn14.inWay st.task).length : Nat), (Pn14.inWay st.task).flatMap fun x => [x.1, x.2.1, x.2.2]⟩) := rfl
    rw [es] at k
    cases c : (Pn.at_ st.task.costs st.task.start).isSome with
    | true =>
      rw [c, if_pos rfl] at k
      refine iteT ⟨(by show 1 ≤ sizeLine; decide), fun p hp => ?_⟩
      exact k.no hh (same_upd s1 (s1.free hp)) (s1.free hp) upd_same
    | false =>
      rw [c, if_neg Bool.false_ne_true] at k
      have g1 := s1 _ _ h1
      refine iteF ⟨_, rfl, h, C, dx, _, _, rfl, g1, T.cl, T.n2, hF_first _ _ _, _, rfl, h, C, dx, _, _, rfl, g1, T.cl, T.n3, hF_wanted _ _ _, _, rfl, h, C, dx, _, _, rfl, g1, T.cl, T.n4, hF_acts _ _ _, _, rfl, h, C, dx, _, _, rfl, g1, T.cl, T.n1, hF_count _ _ _, st.task, la, ps, rfl, o, s1 _ _ h2, h4.same s1, fun H2 p ts s2 np hp hR hl => ?_⟩
      refine ⟨_, rfl, p, _, rfl, .inl (SqL.of hp), (by show 1 ≤ sizeLine; decide), fun r nr => ?_⟩
      have s12 := s1.trans s2
      have s3 : Same H2 (upd H2 r (.lst [.int ((ts.length : Nat) : Int)])) := same_new nr
      have npr : p ≠ r := ne_of_none hp nr
      have nrH := s12.free nr
      refine ⟨_, rfl, p, rfl, ⟨_, SqL.of (s3 _ _ hp)⟩, for_list (K := K) (a := p) (xs := ts) (fun i σ H' => ∃ v3 : Option V, σ = [some (.ref h), some (.ref p), some (.ref r), v3] ∧ Same H H' ∧ H' p = some (.lst ts) ∧ Rows TripAt (Pn14.inWay st.task) ts H' ∧ H' r = some (.lst (.int ((ts.length : Nat) : Int) :: lN (((Pn14.inWay st.task).take i).flatMap fun x => [x.1, x.2.1, x.2.2])))  ∧ (((Pn14.inWay st.task).take i).flatMap fun x => [x.1, x.2.1, x.2.2]).length ≤ 3 * i)
        ⟨none, rfl, s12.trans s3, s3 _ _ hp, hR.sameT s3, upd_same, Nat.zero_le _⟩ (fun i σ' H2 _ ⟨_, _, _, q, _⟩ => SqL.of q) ?_ ?_⟩
      · rintro i x σ' H4 hx ⟨v3, rfl, q1, q2, q3, q4, q5⟩
        obtain ⟨⟨a, b, c⟩, hi, t, rfl, ht⟩ := q3.mem hx
        have hlen := (List.getElem?_eq_some_iff.mp hi).1
        have ntr : t ≠ r := ne_of ht q4 (by intro z; cases z)
        have tk : ((Pn14.inWay st.task).take (i + 1)).flatMap (fun x => [x.1, x.2.1, x.2.2]) = (((Pn14.inWay st.task).take i).flatMap fun x => [x.1, x.2.1, x.2.2]) ++ [a, b, c] := by
          rw [List.take_add_one, hi, List.flatMap_append]
          rfl
        refine ⟨_, rfl, .inl ⟨rfl, _, SqL.of q4⟩, _, rfl, r, t, _, _, rfl, rfl, q4, SqT.of ht, ?_, ?_⟩
        · refine Nat.le_of_lt (small1000 ?_)
          rw [List.length_cons, List.length_map]
          show _ + 1 + 3 ≤ 1000
          omega
        · refine ⟨_, rfl, same_upd q1 nrH, Eq.trans (upd_ne npr) q2, q3.keepT fun b' xs e => ?_, ?_, ?_⟩
          · rw [upd_ne (ne_of e q4 (by intro z; cases z))]
            exact e
          · rw [upd_same, tk]
            show some (HO.lst (_ :: (lN _ ++ _))) = some (HO.lst (_ :: lN (_ ++ _)))
            rw [lN, lN, List.map_append]
            rfl
          · rw [tk, List.length_append]
            show _ + 3 ≤ _
            omega
      · rintro σ' H4 ⟨v3, rfl, q1, q2, q3, q4, q5⟩
        rw [q3.1, List.take_length] at q4
        exact ⟨_, rfl, After.yes k hh q1 nrH q4⟩
theorem scPlan : FnScope ["self", "costs"] ["self"] (defScope sPlan) := ⟨rfl, rfl, rfl, by decide +kernel, rfl, by decide +kernel, by decide +kernel⟩
theorem ok_plan {f fP fL : Addr} {fd fdP fdL : FuncData} (F : Fun K "plan" "House.plan" sPlan f fd) (T : TxH K C) (np : Cn mg "NO_PLAN" (-6))
    (GP : FnOk P w K mg base CX0 5 fP fdP ["self"] (spPlanCosts C CA)) (bP : Binds K fdP ["self"] []) (mP : Meth K C "plan_costs" fP)
    (GL : FnOk P w K mg base CX0 4 fL fdL ["first", "acts", "costs"] (spFirstPlan K CA)) (bL : Binds K fdL ["first", "acts", "costs"] []) (mL : mg "first_cheapest_plan" = some (.ref fL)) (kL : PySem.W.keepIn K (.ref fL) = true) : FnOk P w K mg base CX0 6 f fd ["self"] (spPlan C CA) := by
  refine F.ok scPlan (fun vs H Q E h => ?_) (fun cdv A outer s H vs Q E hr h => ?_)
  · obtain ⟨h, la, lp, s, rfl, _⟩ := h
    rfl
  · obtain ⟨h, la, lp, st, rfl, hh, ho, k⟩ := h
    have hu := hu_of hr
    refine ⟨_, pss_cons (ps_set (i := 1) scPlan.nd rfl (Or.inl rfl) (pe_meth0 (pv 0) T.cl mP GP hr bP .nil pass0))
      (pss_cons (ps_if (pt_cmp (pc_dnotin hu (pe_fld (pv 0) rfl) (pv 1))) (pss_one (ps_ret (pe_lst (pa_cons (pe_cn np) pa_nil)))) pss_nil)
      (pss_one (ps_ret (pe_op op_cat (pe_lst (pa_cons (pe_dget hu (pv 1) (pe_fld (pv 0) rfl) (fun _ _ => rfl)) pa_nil)) (pe_call GL (hr.mono (by decide)) rfl mL kL bL .nil pass0 (pa_cons (pe_fld (pv 0) rfl) (pa_cons (pe_fld (pv 0) rfl) (pa_cons (pv 1) pa_nil)))))))), ?_⟩
    obtain ⟨dx, ps, h1, h2, h3, h4, h5⟩ := id hh
    have o := ho.t
    refine ⟨_, rfl, h, dx, _, rfl, h1, hF_no _ _ _ (by decide +kernel), h, la, lp, st, rfl, hh, ho, fun H1 d D s1 nd hd hT => ?_⟩
    have g1 := s1 _ _ h1
    refine ⟨_, rfl, h, C, dx, _, _, rfl, g1, T.cl, T.n2, hF_first _ _ _, _, rfl, d, _, rfl, DGet.k (k := Sum.inl (st.task.start : Int)) hd, _, rfl, ?_⟩
    have eT : lk D st.task.start = Pn.at_ st.task.costs st.task.start := hT.eq _ o.start
    rw [kvC_val, Option.isSome_map, eT]
    have es : Pn14.step st .plan = (st, match st.task.first st.task.start with | none => Pn14.ok (-6) | some l => ⟨(st.task.price l : Nat), l⟩) := rfl
    rw [es] at k
    cases c : Pn.at_ st.task.costs st.task.start with
    | none =>
      rw [(first_none o o.start).mpr ((costs_none o o.start).mp c)] at k
      refine iteT ⟨(by show 1 ≤ sizeLine; decide), fun p hp => ?_⟩
      exact k.no hh (same_upd s1 (s1.free hp)) (s1.free hp) upd_same
    | some v =>
      have fl := first_here o o.start c
      rw [(first_is o o.start).mpr fl] at k
      have ev : v = st.task.price (st.task.best st.task.costs (2 ^ st.task.facts) st.task.start) := Option.some.inj (c.symm.trans (fl.price o o.start))
      have gd : DGet H1 d (vN st.task.start) (some (vN v)) := .inl ⟨kvC D, Sum.inl (st.task.start : Int), .inl hd, rfl, by rw [kvC_val, eT, c]; rfl⟩
      refine iteF ⟨_, rfl, _, rfl, h, C, dx, _, _, rfl, g1, T.cl, T.n2, hF_first _ _ _, d, _, rfl, gd, (by show 1 ≤ sizeLine; decide), fun r nr => ?_⟩
      have s2 : Same H1 (upd H1 r (.lst [vN v])) := same_new nr
      have s12 := s1.trans s2
      refine ⟨_, rfl, h, C, dx, _, _, rfl, s12 _ _ h1, T.cl, T.n2, hF_first _ _ _, _, rfl, h, C, dx, _, _, rfl, s12 _ _ h1, T.cl, T.n4, hF_acts _ _ _, _, rfl, st.task, la, d, ps, D, _, rfl, o, SqL.of (s12 _ _ h2), h4.same s12, s2 _ _ hd, hT, fl, fun H3 p s3 np hp => ?_⟩
      have s13 := s12.trans s3
      refine ⟨r, p, _, _, rfl, rfl, s3 _ _ upd_same, hp, ?_, fun q nq => ?_⟩
      · refine Nat.le_of_lt (small1000 ?_)
        rw [List.length_map]
        have := first_length o o.start fl
        show 1 + _ ≤ 1000
        omega
      · have nqH := s13.free nq
        refine After.yes k hh (same_upd s13 nqH) nqH ?_
        rw [upd_same, ev]
        rfl
theorem scWhy : FnScope ["self", "k", "costs", "any_plan", "with_act", "act_first"] ["self", "k"] (defScope sWhy) := ⟨rfl, rfl, rfl, by decide +kernel, rfl, by decide +kernel, by decide +kernel⟩
theorem told_len (x : Option Nat) : (Pn14.told x).length ≤ 2 := by
  cases x with
  | none => show 1 ≤ 2; decide
  | some v => exact Nat.le_refl 2
theorem ok_why {f fP fF fT fI : Addr} {fd fdP fdF fdT fdI : FuncData} (F : Fun K "why" "House.why" sWhy f fd) (T : TxH K C) (len : mg "len" = none) (ns : Cn mg "NO_SUCH_ACT" (-2)) (dn : Cn mg "DONE" 0)
    (GP : FnOk P w K mg base CX0 5 fP fdP ["self"] (spPlanCosts C CA)) (bP : Binds K fdP ["self"] []) (mP : Meth K C "plan_costs" fP)
    (GF : FnOk P w K mg base CX0 4 fF fdF ["first", "acts", "fact_count"] (spCostsFrom K CA)) (bF : Binds K fdF ["first", "acts", "fact_count"] []) (mF : mg "costs_from" = some (.ref fF)) (kF : PySem.W.keepIn K (.ref fF) = true)
    (GT : FnOk P w K mg base CX0 3 fT fdT ["act", "costs_ahead", "costs_behind"] (spThrough CA)) (bT : Binds K fdT ["act", "costs_ahead", "costs_behind"] []) (mT : mg "costs_through" = some (.ref fT)) (kT : PySem.W.keepIn K (.ref fT) = true)
    (GI : FnOk P w K mg base CX0 1 fI fdI ["costs"] (spIfAny K)) (bI : Binds K fdI ["costs"] []) (mI : mg "cheapest_if_any" = some (.ref fI)) (kI : PySem.W.keepIn K (.ref fI) = true) : FnOk P w K mg base CX0 6 f fd ["self", "k"] (spWhy C CA) := by
  refine F.ok scWhy (fun vs H Q E h => ?_) (fun cdv A outer s H vs Q E hr h => ?_)
  · obtain ⟨h, la, lp, s, k, rfl, _⟩ := h
    rfl
  · obtain ⟨h, la, lp, st, i, rfl, hh, ho, k⟩ := h
    have hu := hu_of hr
    have hr1 : Room 1 _ := hr.mono (by decide)
    have hr3 : Room 3 _ := hr.mono (by decide)
    have hr4 : Room 4 _ := hr.mono (by decide)
    refine ⟨_, pss_cons (ps_if (pt_cmpR op_ge (pv 1) (pe_callB call_len_seq (by rfl) len PySem.boot_len (pa_cons (pe_fld (pv 0) rfl) pa_nil)) (nomark _)) (pss_one (ps_ret (pe_lst (pa_cons (pe_cn ns) pa_nil)))) pss_nil)
      (pss_cons (ps_set (i := 2) scWhy.nd rfl (Or.inl rfl) (pe_meth0 (pv 0) T.cl mP GP hr bP .nil pass0))
      (pss_cons (ps_set (i := 3) scWhy.nd rfl (Or.inl rfl) (pe_ifExp (pt_cmp (pc_din hu (pe_fld (pv 0) rfl) (pv 2))) (pe_lst (pa_cons (pe_dget hu (pv 2) (pe_fld (pv 0) rfl) (fun _ _ => rfl)) pa_nil)) (pe_lst pa_nil)))
      (pss_cons (ps_set (i := 4) scWhy.nd rfl (Or.inl rfl) (pe_call GT hr3 rfl mT kT bT .nil pass0 (pa_cons (pe_ix ix_list (pe_fld (pv 0) rfl) (pv 1) (fun _ _ => rfl)) (pa_cons (pe_call GF hr4 rfl mF kF bF .nil pass0 (pa_cons (pe_fld (pv 0) rfl) (pa_cons (pe_fld (pv 0) rfl) (pa_cons (pe_fld (pv 0) rfl) pa_nil)))) (pa_cons (pv 2) pa_nil)))))
      (pss_cons (ps_set (i := 5) scWhy.nd rfl (Or.inl rfl) (pe_call GT hr3 rfl mT kT bT .nil pass0 (pa_cons (pe_ix ix_list (pe_fld (pv 0) rfl) (pv 1) (fun _ _ => rfl)) (pa_cons (pe_disp (pps_cons (pe_fld (pv 0) rfl) pe_int pps_nil) (by rfl) (by rfl) (fun z => by cases z) (by decide)) (pa_cons (pv 2) pa_nil)))))
      (pss_one (ps_ret (pe_op op_cat (pe_op op_cat (pe_op op_cat (pe_lst (pa_cons (pe_cn dn) pa_nil)) (pe_call GI hr1 rfl mI kI bI .nil pass0 (pa_cons (pv 3) pa_nil))) (pe_call GI hr1 rfl mI kI bI .nil pass0 (pa_cons (pv 4) pa_nil))) (pe_call GI hr1 rfl mI kI bI .nil pass0 (pa_cons (pv 5) pa_nil))))))))), ?_⟩
    obtain ⟨dx, ps, h1, h2, h3, h4, h5⟩ := id hh
    have o := ho.t
    have pl := h4.1
    refine ⟨_, rfl, _, rfl, h, C, dx, _, _, rfl, h1, T.cl, T.n4, hF_acts _ _ _, la, _, rfl, .inl (SqL.of h2), _, _, rfl, rfl, _, rfl, ?_⟩
    rw [List.length_map, pl]
    show if decide (((st.task.acts.length : Nat) : Int) ≤ (i : Int)) = true then _ else _
    have es : Pn14.step st (.why i) = if st.task.acts.length ≤ i then (st, Pn14.ok (-2)) else (st, ⟨0, Pn14.told (Pn.at_ st.task.costs st.task.start) ++ (Pn14.told (Pn14.withAct st.task i) ++ Pn14.told (Pn14.beginning st.task i))⟩) := rfl
    rw [es] at k
    by_cases c : st.task.acts.length ≤ i
    · rw [if_pos c] at k
      rw [decide_eq_true (show ((st.task.acts.length : Nat) : Int) ≤ (i : Int) by omega)]
      refine iteT ⟨(by show 1 ≤ sizeLine; decide), fun p hp => ?_⟩
      exact k.no hh (same_new hp) hp upd_same
    · rw [if_neg c] at k
      rw [decide_eq_false (show ¬ ((st.task.acts.length : Nat) : Int) ≤ (i : Int) by omega)]
      have hi : i < st.task.acts.length := by omega
      have hpi : i < ps.length := by omega
      obtain ⟨a, ha, hact⟩ := h4.2 i _ (List.getElem?_eq_getElem hpi)
      have ea : st.task.act i = a := by
        rw [act_get hi]
        exact (List.getElem?_eq_some_iff.mp ha).2
      have hat : atI (ps.map V.ref) (i : Int) = some (.ref ps[i]) := atI_nat (by rw [List.getElem?_map, List.getElem?_eq_getElem hpi]; rfl)
      refine iteF ⟨_, rfl, h, dx, _, rfl, h1, hF_no _ _ _ (by decide +kernel), h, la, lp, st, rfl, hh, ho, fun H1 d D s1 nd hd hT => ?_⟩
      have g1 := s1 _ _ h1
      have eT : lk D st.task.start = Pn.at_ st.task.costs st.task.start := hT.eq _ o.start
      -- behind any_plan
      have rest : ∀ (H2 : Hp) (a3 : Addr) (L3 : List Nat), Same H1 H2 → H1 a3 = Option.none → H2 a3 = some (.lst (lN L3)) → (∀ c, Le (Pn.at_ st.task.costs st.task.start) c ↔ ∃ v ∈ L3, v ≤ c) →
          (tAsg (tCall (spThrough CA) [] E0 (tCons (tOp (rIxL K) (tFld K (tVar 0) "acts") (tVar 1)) (tCons (tCall (spCostsFrom K CA) [] E0 (tCons (tFld K (tVar 0) "first") (tCons (tFld K (tVar 0) "acts") (tCons (tFld K (tVar 0) "fact_count") tNil)))) (tCons (tVar 2) tNil)))) (gName 4) {
            nx := tAsg (tCall (spThrough CA) [] E0 (tCons (tOp (rIxL K) (tFld K (tVar 0) "acts") (tVar 1)) (tCons (tDisp [(tFld K (tVar 0) "first", tC (V.int 0))]) (tCons (tVar 2) tNil)))) (gName 5) {
              nx := tRet (tOp rCat (tOp rCat (tOp rCat (tLst (tCons (tC (V.int 0)) tNil)) (tCall (spIfAny K) [] E0 (tCons (tVar 3) tNil))) (tCall (spIfAny K) [] E0 (tCons (tVar 4) tNil))) (tCall (spIfAny K) [] E0 (tCons (tVar 5) tNil))) { nx := fun _ H' => Q .non H', rt := Q }, rt := Q }, rt := Q }) [some (.ref h), some (vN i), some (.ref d), some (.ref a3), none, none] H2 := by
        intro H2 a3 L3 s2 na3 h3' hle3
        have s02 := s1.trans s2
        have f1 := s02 _ _ h1
        have f2 := s02 _ _ h2
        refine ⟨_, rfl, h, C, dx, _, _, rfl, f1, T.cl, T.n4, hF_acts _ _ _, _, rfl, la, _, _, _, rfl, rfl, SqL.of f2, hat, ?_⟩
        refine ⟨_, rfl, h, C, dx, _, _, rfl, f1, T.cl, T.n2, hF_first _ _ _, _, rfl, h, C, dx, _, _, rfl, f1, T.cl, T.n4, hF_acts _ _ _, _, rfl, h, C, dx, _, _, rfl, f1, T.cl, T.n1, hF_count _ _ _, st.task, la, ps, rfl, o, SqL.of f2, h4.same s02, fun H3 d1 D1 s3 nd1 hd1 hT1 => ?_⟩
        have s03 := s02.trans s3
        have hd3 := s3 _ _ (s2 _ _ hd)
        have n1d : d1 ≠ d := fun z => by
          rw [z, s2 _ _ hd] at nd1
          cases nd1
        have l1 : D1.length ≤ 1000 := by
          have := keys_length hT1.nd hT1.lt
          have := two32 o.n
          omega
        refine ⟨_, rfl, ps[i], d1, d, a, D1, D, rfl, hact.keep (fun _ e => s03 _ _ e), hd1, hd3, n1d, hT1.nd, l1, fun H4 a4 L4 s4 na4 h4' hm4 => ?_⟩
        have s04 := s03.trans s4
        have k1 := s04 _ _ h1
        refine ⟨_, rfl, h, C, dx, _, _, rfl, k1, T.cl, T.n4, hF_acts _ _ _, _, rfl, la, _, _, _, rfl, rfl, SqL.of (s04 _ _ h2), hat, ?_⟩
        intro d2 nd2
        have s5 : Same H4 (upd H4 d2 (.dK [])) := same_new nd2
        have hfin : upd (upd H4 d2 (.dK [])) d2 (.dK (mergeK [] [(Sum.inl (st.task.start : Int), V.int 0)])) = upd (upd H4 d2 (.dK [])) d2 (.dK (kvC [(st.task.start, 0)])) := rfl
        refine ⟨_, rfl, h, C, dx, _, _, rfl, s5 _ _ k1, T.cl, T.n2, hF_first _ _ _, upd_same, [(Sum.inl (st.task.start : Int), V.int 0)], rfl, (by show 1 ≤ 15; decide), ?_⟩
        rw [hfin]
        have s6 : Same H4 (upd (upd H4 d2 (.dK [])) d2 (.dK (kvC [(st.task.start, 0)]))) := same_upd s5 nd2
        have s06 := s04.trans s6
        have hd6 := s6 _ _ (s4 _ _ hd3)
        have n2d : d2 ≠ d := fun z => by
          rw [z, s4 _ _ hd3] at nd2
          cases nd2
        refine ⟨_, rfl, ps[i], d2, d, a, [(st.task.start, 0)], D, rfl, hact.keep (fun _ e => s06 _ _ e), upd_same, hd6, n2d, by simp, by simp, fun H7 a5 L5 s7 na5 h5' hm5 => ?_⟩
        rw [← ea] at hm4 hm5
        have s07 := s06.trans s7
        have b3 := s7 _ _ (s6 _ _ (s4 _ _ (s3 _ _ h3')))
        have b4 := s7 _ _ (s6 _ _ h4')
        refine ⟨(by show 1 ≤ sizeLine; decide), fun r0 nr0 => ?_⟩
        have t0 : Same H7 (upd H7 r0 (.lst [V.int 0])) := same_new nr0
        refine ⟨_, rfl, a3, L3, _, rfl, SqL.of (t0 _ _ b3), hle3, fun H8 q1 t1 nq1 hq1 => ?_⟩
        refine ⟨r0, q1, _, _, rfl, rfl, t1 _ _ upd_same, hq1, ?_, fun r1 nr1 => ?_⟩
        · refine Nat.le_of_lt (small1000 ?_)
          rw [List.length_map]
          have := told_len (Pn.at_ st.task.costs st.task.start)
          show 1 + _ ≤ 1000
          omega
        have t2 := (t0.trans t1).trans (same_new (o := .lst ([V.int 0] ++ lN (Pn14.told (Pn.at_ st.task.costs st.task.start)))) nr1)
        refine ⟨_, rfl, a4, L4, _, rfl, SqL.of (t2 _ _ b4), with_le o hi hT1 hT hm4, fun H9 q2 t3 nq2 hq2 => ?_⟩
        refine ⟨r1, q2, _, _, rfl, rfl, t3 _ _ upd_same, hq2, ?_, fun r2 nr2 => ?_⟩
        · refine Nat.le_of_lt (small1000 ?_)
          rw [List.length_append, List.length_map, List.length_map]
          have := told_len (Pn.at_ st.task.costs st.task.start)
          have := told_len (Pn14.withAct st.task i)
          show 1 + _ + _ ≤ 1000
          omega
        have t4 := (t2.trans t3).trans (same_new (o := .lst ([V.int 0] ++ lN (Pn14.told (Pn.at_ st.task.costs st.task.start)) ++ lN (Pn14.told (Pn14.withAct st.task i)))) nr2)
        refine ⟨_, rfl, a5, L5, _, rfl, SqL.of (t4 _ _ h5'), begin_le o hi hT hm5, fun H10 q3 t5 nq3 hq3 => ?_⟩
        refine ⟨r2, q3, _, _, rfl, rfl, t5 _ _ upd_same, hq3, ?_, fun r3 nr3 => ?_⟩
        · refine Nat.le_of_lt (small1000 ?_)
          rw [List.length_append, List.length_append, List.length_map, List.length_map, List.length_map]
          have := told_len (Pn.at_ st.task.costs st.task.start)
          have := told_len (Pn14.withAct st.task i)
          have := told_len (Pn14.beginning st.task i)
          show 1 + _ + _ + _ ≤ 1000
          omega
        have t6 := s07.trans (t4.trans t5)
        have nrH := t6.free nr3
        refine After.yes k hh (same_upd t6 nrH) nrH ?_
        rw [upd_same, lN, lN, lN, lN, List.map_append, List.map_append]
        show some (HO.lst (V.int 0 :: ((_ ++ _) ++ _))) = some (HO.lst (V.int 0 :: (_ ++ (_ ++ _))))
        rw [List.append_assoc]
        rfl
      refine ⟨_, rfl, h, C, dx, _, _, rfl, g1, T.cl, T.n2, hF_first _ _ _, _, rfl, d, _, rfl, DGet.k (k := Sum.inl (st.task.start : Int)) hd, _, rfl, ?_⟩
      rw [kvC_val, Option.isSome_map, eT]
      cases cc : Pn.at_ st.task.costs st.task.start with
      | none =>
        refine iteF ⟨Nat.zero_le _, fun r nr => ?_⟩
        refine rest _ r [] (same_new nr) nr upd_same fun c => ?_
        rw [cc]
        exact ⟨fun z => absurd z le_none, fun ⟨_, z, _⟩ => (by cases z)⟩
      | some v =>
        have gd : DGet H1 d (vN st.task.start) (some (vN v)) := .inl ⟨kvC D, Sum.inl (st.task.start : Int), .inl hd, rfl, by rw [kvC_val, eT, cc]; rfl⟩
        refine iteT ⟨_, rfl, _, rfl, h, C, dx, _, _, rfl, g1, T.cl, T.n2, hF_first _ _ _, d, _, rfl, gd, (by show 1 ≤ sizeLine; decide), fun r nr => ?_⟩
        refine rest _ r [v] (same_new nr) nr upd_same fun c => ?_
        rw [cc, le_some]
        exact ⟨fun z => ⟨v, List.mem_singleton.mpr rfl, z⟩, fun ⟨u, hu, z⟩ => (by rw [List.mem_singleton.mp hu] at z; exact z)⟩
end
end Wn

set_option Elab.async false
set_option maxRecDepth 100000
set_option maxHeartbeats 4000000
/-! next_answer. -/
namespace Wn
open PySem PySem.Spec PyProof.Rows L2
abbrev sNext : Stmt := top 47
theorem if_yes {c : Bool} {A B : Prop} (hc : c = true) (h : A) : if c = true then A else B := by
  rw [if_pos hc]
  exact h
theorem if_no {c : Bool} {A B : Prop} (hc : c = false) (h : B) : if c = true then A else B := by
  rw [hc, if_neg Bool.false_ne_true]
  exact h
theorem int_ne {x y : Int} (h : x ≠ y) : decide (V.int x = V.int y) = false := decide_eq_false fun z => h (by injection z)
theorem int_eq (x : Int) : decide (V.int x = V.int x) = true := decide_eq_true rfl
theorem drop_get {ns : List Int} {i : Nat} {x : Int} {r : List Int} (h : ns.drop i = x :: r) : ns[i]? = some x ∧ ns.drop (i + 1) = r := by
  constructor
  · have := congrArg (fun l => l[0]?) h
    simpa using this
  · rw [← List.tail_drop, h]
    rfl
/-- a house's state that may stand stays so -/
theorem step_ok {s : Pn14.House} (h : HOk s) (c : Pn14.Call) : HOk (Pn14.step s c).1 := by
  cases c with
  | begins n f g =>
    by_cases e : n = 0 ∨ Pn14.FACTS < n ∨ 2 ^ n ≤ f ∨ 2 ^ n ≤ g
    · rw [show Pn14.step s (.begins n f g) = (s, Pn14.ok (-1)) from if_pos e]
      exact h
    · rw [show Pn14.step s (.begins n f g) = (⟨⟨n, [], f, g⟩, List.replicate n 1⟩, Pn14.ok 0) from if_neg e]
      unfold Pn14.FACTS at e
      refine ⟨⟨by show 1 ≤ n; omega, by show n ≤ 5; omega, Nat.zero_le _, fun a ha => (by cases ha), by show f < 2 ^ n; omega, by show g < 2 ^ n; omega⟩, List.length_replicate, fun x hx => ?_⟩
      rw [(List.mem_replicate.mp hx).2]
      decide
  | act r =>
    show HOk (if s.task.acts.length = Pn14.ACTS then (s, Pn14.ok (-7)) else match Pn.act? s.task.facts r with
      | none => (s, Pn14.ok (-1))
      | some a => ({ s with task := { s.task with acts := s.task.acts ++ [a] } }, Pn14.ok (s.task.acts.length : Nat))).1
    by_cases e : s.task.acts.length = Pn14.ACTS
    · rw [if_pos e]
      exact h
    · rw [if_neg e]
      cases ha : Pn.act? s.task.facts r with
      | none => exact h
      | some a =>
        have hright : a.right s.task.facts = true := by
          by_cases h5 : r.length = 5
          · obtain ⟨p, q, x, d, c, rfl⟩ := five h5
            have e2 : Pn.act? s.task.facts [p, q, x, d, c] = if (Pn.Act.mk p q x d c).right s.task.facts = true then some (Pn.Act.mk p q x d c) else none := rfl
            rw [e2] at ha
            by_cases hr : (Pn.Act.mk p q x d c).right s.task.facts = true
            · rw [if_pos hr] at ha
              cases ha
              exact hr
            · rw [if_neg hr] at ha
              cases ha
          · rw [act_none h5] at ha
            cases ha
        refine ⟨⟨h.t.pos, h.t.n, ?_, fun b hb => ?_, h.t.start, h.t.goal⟩, h.len, h.each⟩
        · show (s.task.acts ++ [a]).length ≤ 8
          have := h.t.few
          have e : ¬ s.task.acts.length = 8 := e
          rw [List.length_append, List.length_singleton]
          omega
        · have hb : b ∈ s.task.acts ++ [a] := hb
          rcases List.mem_append.mp hb with hb | hb
          · exact h.t.acts b hb
          · rw [List.mem_singleton.mp hb]
            exact hright
  | from_ f g =>
    by_cases e : 2 ^ s.task.facts ≤ f ∨ 2 ^ s.task.facts ≤ g
    · rw [show Pn14.step s (.from_ f g) = (s, Pn14.ok (-1)) from if_pos e]
      exact h
    · rw [show Pn14.step s (.from_ f g) = ({ s with task := { s.task with start := f, goal := g } }, Pn14.ok 0) from if_neg e]
      exact ⟨⟨h.t.pos, h.t.n, h.t.few, h.t.acts, by show f < 2 ^ s.task.facts; omega, by show g < 2 ^ s.task.facts; omega⟩, h.len, h.each⟩
  | prices l =>
    by_cases e : l.length ≠ s.task.facts ∨ (l.any fun p => p == 0 || decide (Pn.COST < p)) = true
    · rw [show Pn14.step s (.prices l) = (s, Pn14.ok (-1)) from if_pos e]
      exact h
    · rw [show Pn14.step s (.prices l) = ({ s with prices := l }, Pn14.ok 0) from if_neg e]
      refine ⟨h.t, ?_, fun x hx => ?_⟩
      · show l.length = s.task.facts
        exact Classical.not_not.mp fun z => e (.inl z)
      · have h2 : ¬ (l.any fun p => p == 0 || decide (Pn.COST < p)) = true := fun z => e (.inr z)
        rw [Bool.not_eq_true, List.any_eq_false] at h2
        have h3 := h2 x hx
        rw [Bool.not_eq_true, Bool.or_eq_false_iff, beq_eq_false_iff_ne, decide_eq_false_iff_not] at h3
        have h4 : ¬ 1000 < x := h3.2
        exact ⟨Nat.pos_of_ne_zero h3.1, Nat.le_of_not_lt h4⟩
  | greatest => exact h
  | least => exact h
  | otherwise => exact h
  | inWay =>
    show HOk (if (Pn.at_ s.task.costs s.task.start).isSome = true then (s, Pn14.ok (-3)) else (s, _)).1
    by_cases e : (Pn.at_ s.task.costs s.task.start).isSome = true
    · rw [if_pos e]
      exact h
    · rw [if_neg e]
      exact h
  | why k =>
    show HOk (if s.task.acts.length ≤ k then (s, Pn14.ok (-2)) else (s, _)).1
    by_cases e : s.task.acts.length ≤ k
    · rw [if_pos e]
      exact h
    · rw [if_neg e]
      exact h
  | plan => exact h
theorem init_ok : HOk Pn14.init := ⟨⟨by decide, by decide, by decide, fun a ha => (by cases ha), by decide, by decide⟩, rfl, fun x hx => by rw [List.mem_singleton.mp hx]; decide⟩
theorem nstep_ok {s : Pn14.House} (h : HOk s) (c : List (List Int)) : HOk (Pn14Neutral.step s c).1 := by
  unfold Pn14Neutral.step
  cases Pn14Neutral.callOf c with
  | none => exact h
  | some x => exact step_ok h x
/-! heaps -/
theorem But.trans {H H1 H2 : Hp} {r : Addr} (a : But H H1 r) (b : But H1 H2 r) : But H H2 r := fun x o e n => b x o (a x o e n) n
theorem But.free {H H' : Hp} {r p C dx : Addr} {fs : List (Str × V)} (e : But H H' r) (hr : H' r = some (.ins C dx fs)) (h : H' p = Option.none) : H p = Option.none := by
  cases q : H p with
  | none => rfl
  | some o =>
    have := e p o q (fun z => by rw [z, hr] at h; cases h)
    rw [h] at this
    cases this
theorem rF_not {s : Pn14.House} {la lp a : Addr} {i : Nat} (e : hF s la lp = rF a i) : False := by
  have q := congrArg List.length e
  cases q
theorem aF_not {x : Ac} {a : Addr} {i : Nat} (e : aF x = rF a i) : False := by
  have q := congrArg List.length e
  cases q
theorem HouseAt.but {CH CA CR : Addr} {H H' : Hp} {h la lp r a : Addr} {i : Nat} {s : Pn14.House} (k : HouseAt CH CA H h la lp s) (hr : ReaderAt CR H r a i) (e : But H H' r) : HouseAt CH CA H' h la lp s := by
  obtain ⟨dr, hr⟩ := hr
  obtain ⟨dx, ps, h1, h2, h3, h4, h5⟩ := k
  refine ⟨dx, ps, e _ _ h1 (ne_of h1 hr fun z => ?_), e _ _ h2 (ne_of h2 hr fun z => by cases z), e _ _ h3 (ne_of h3 hr fun z => by cases z), h4.keep fun p dy x hp => e _ _ hp (ne_of hp hr fun z => ?_), h5⟩
  · injection z with _ _ z
    exact rF_not z
  · injection z with _ _ z
    exact aF_not z
/-- the numbers of a row as plain numbers -/
theorem row_nat {l : List Int} (h : ∀ x ∈ l, (0 : Int) ≤ x) : l.map V.int = lN (Pn14Neutral.nats l) := by
  show l.map V.int = (l.map Int.toNat).map fun (n : Nat) => V.int (n : Int)
  rw [List.map_map]
  refine List.map_congr_left fun x hx => ?_
  show V.int x = V.int (x.toNat : Int)
  rw [Int.toNat_of_nonneg (h x hx)]
theorem vz {z : Int} (h : 0 ≤ z) : V.int z = vN z.toNat := by
  show V.int z = V.int (z.toNat : Int)
  rw [Int.toNat_of_nonneg h]
/-! the promise -/
def AfterN (CH CA CR : Addr) (H : Hp) (h la lp r a : Addr) (i : Nat) (ns : List Int) (t : List Int) (res : Pn14.House × List Int) (Q : VK) : Prop :=
  ∀ (H' : Hp) (p la' lp' : Addr) (i' : Nat), HouseAt CH CA H' h la' lp' res.1 → ReaderAt CR H' r a i' → ns.drop i' = t → i < i' → (la' = la ∨ H la' = Option.none) → (lp' = lp ∨ H lp' = Option.none) →
    (∀ b o, H b = some o → b ≠ h → b ≠ la → b ≠ r → H' b = some o) → H p = Option.none → H' p = some (.lst (res.2.map V.int)) → Q (.ref p) H'
def spNext (K : PySem.W.Frag) (CH CA CR : Addr) (Known : List (List Int) → Prop) : Sp := fun vs H Q _ => ∃ (h la lp r a : Addr) (s : Pn14.House) (i : Nat) (ns : List Int) (c : List (List Int)) (t : List Int), vs = [.ref h, .ref r] ∧ HouseAt CH CA H h la lp s ∧ HOk s ∧ ReaderAt CR H r a i ∧ SqL K H a (ns.map V.int) ∧
  Form c ∧ Reads (ns.drop i) c t ∧ Fine c ∧ Known c ∧ AfterN CH CA CR H h la lp r a i ns t (Pn14Neutral.step s c) Q
/-- from a house's call, behind what the reader took, to the whole -/
theorem AfterN.next {CH CA CR : Addr} {H H1 : Hp} {h la lp r a : Addr} {s : Pn14.House} {i i' : Nat} {ns t : List Int} {x : Pn14.Call} {c : List (List Int)} {Q : VK} (k : AfterN CH CA CR H h la lp r a i ns t (Pn14Neutral.step s c) Q) (hc : Pn14Neutral.callOf c = some x)
    (hh : HouseAt CH CA H1 h la lp s) (hr : ReaderAt CR H1 r a i') (b : But H H1 r) (hd : ns.drop i' = t) (hi : i < i') : After CH CA H1 h la lp (Pn14.step s x) Q := by
  intro H' p la' lp' q1 q2 q2' q3 q4 q5
  have e : Pn14Neutral.step s c = ((Pn14.step s x).1, Pn14Neutral.out (Pn14.step s x).2) := by
    unfold Pn14Neutral.step
    rw [hc]
  rw [e] at k
  obtain ⟨dr, hr⟩ := hr
  obtain ⟨dx, ps, h1, h2, h3, h4, h5⟩ := hh
  refine k H' p la' lp' i' q1 ⟨dr, q3 _ _ hr (ne_of hr h1 fun z => ?_) (ne_of hr h2 fun z => by cases z)⟩ hd hi (q2.imp id fun z => b.free hr z) (q2'.imp id fun z => b.free hr z) (fun b' o e n1 n2 n3 => q3 _ _ (b _ _ e n3) n1 n2) (b.free hr q4) q5
  injection z with _ _ z
  exact rF_not z.symm
section
variable {P : Program} {w : World} {K : PySem.W.Frag} {mg : Str → Option Value} {base : Heap} {CH CA CR : Addr}
theorem scNext : FnScope ["house", "reader", "call", "n", "first", "wanted"] ["house", "reader"] (defScope sNext) := ⟨rfl, rfl, rfl, by decide +kernel, rfl, by decide +kernel, by decide +kernel⟩
def KnownAll (_ : List (List Int)) : Prop := True
theorem ok_next {f fN fR fB fA fF fP fG fL fO fI fW fX : Addr} {fd fdN fdR fdB fdA fdF fdP fdG fdL fdO fdI fdW fdX : FuncData} (F : Fun K "next_answer" "next_answer" sNext f fd) (TH : TxH K CH) (TR : TxR K CR)
    (c0 : Cn mg "BEGINS" 0) (c1 : Cn mg "ACT" 1) (c2 : Cn mg "FROM_STATE" 2) (c3 : Cn mg "PRICES" 3) (c4 : Cn mg "GREATEST" 4) (c5 : Cn mg "LEAST" 5) (c6 : Cn mg "OTHERWISE" 6) (c7 : Cn mg "INWAY" 7) (c8 : Cn mg "WHY" 8) (c9 : Cn mg "PLAN" 9)
    (GN : FnOk P w K mg base CX0 1 fN fdN ["self"] (spNumber K CR)) (bN : Binds K fdN ["self"] []) (mN : Meth K CR "number" fN)
    (GR : FnOk P w K mg base CX0 2 fR fdR ["self"] (spRow K CR)) (bR : Binds K fdR ["self"] []) (mR : Meth K CR "row" fR)
    (GB : FnOk P w K mg base CX0 2 fB fdB ["self", "n", "first", "wanted"] (spBegins CH CA)) (bB : Binds K fdB ["self", "n", "first", "wanted"] []) (mB : Meth K CH "begins" fB)
    (GA : FnOk P w K mg base CX0 3 fA fdA ["self", "told"] (spActM K CH CA)) (bA : Binds K fdA ["self", "told"] []) (mA : Meth K CH "act" fA)
    (GF : FnOk P w K mg base CX0 2 fF fdF ["self", "first", "wanted"] (spFrom CH CA)) (bF : Binds K fdF ["self", "first", "wanted"] []) (mF : Meth K CH "from_state" fF)
    (GP : FnOk P w K mg base CX0 2 fP fdP ["self", "each"] (spPrices K CH CA)) (bP : Binds K fdP ["self", "each"] []) (mP : Meth K CH "prices" fP)
    (GG : FnOk P w K mg base CX0 4 fG fdG ["self"] (spGreatest CH CA)) (bG : Binds K fdG ["self"] []) (mG : Meth K CH "greatest" fG)
    (GL : FnOk P w K mg base CX0 5 fL fdL ["self"] (spLeast CH CA)) (bL : Binds K fdL ["self"] []) (mL : Meth K CH "least" fL)
    (GO : FnOk P w K mg base CX0 6 fO fdO ["self"] (spOtherwise CH CA)) (bO : Binds K fdO ["self"] []) (mO : Meth K CH "otherwise" fO)
    (GI : FnOk P w K mg base CX0 6 fI fdI ["self"] (spInway CH CA)) (bI : Binds K fdI ["self"] []) (mI : Meth K CH "inway" fI)
    (GW : FnOk P w K mg base CX0 6 fW fdW ["self", "k"] (spWhy CH CA)) (bW : Binds K fdW ["self", "k"] []) (mW : Meth K CH "why" fW)
    (GX : FnOk P w K mg base CX0 6 fX fdX ["self"] (spPlan CH CA)) (bX : Binds K fdX ["self"] []) (mX : Meth K CH "plan" fX) :
    FnOk P w K mg base CX0 7 f fd ["house", "reader"] (spNext K CH CA CR KnownAll) := by
  refine F.ok scNext (fun vs H Q E h => ?_) (fun cdv A outer s H vs Q E hr h => ?_)
  · obtain ⟨h, la, lp, r, a, s, i, ns, c, t, rfl, _⟩ := h
    rfl
  · obtain ⟨h, la, lp, r, a, st, i, ns, c, t, rfl, hh, ho, hrd, ha, hf, hreads, hfine, _, k⟩ := h
    have hr1 : Room 1 _ := hr.mono (by decide)
    have hr2 : Room 2 _ := hr.mono (by decide)
    have hr3 : Room 3 _ := hr.mono (by decide)
    have hr4 : Room 4 _ := hr.mono (by decide)
    have hr5 : Room 5 _ := hr.mono (by decide)
    refine ⟨_, pss_cons (ps_set (i := 2) scNext.nd rfl (Or.inl rfl) (pe_meth0 (pv 1) TR.cl mN GN hr1 bN .nil pass0))
      (pss_cons (ps_if (pt_cmpR op_eq (pv 2) (pe_cn c0) (nomark _))
        (pss_cons (ps_set (i := 3) scNext.nd rfl (Or.inl rfl) (pe_meth0 (pv 1) TR.cl mN GN hr1 bN .nil pass0))
        (pss_cons (ps_set (i := 4) scNext.nd rfl (Or.inl rfl) (pe_meth0 (pv 1) TR.cl mN GN hr1 bN .nil pass0))
        (pss_cons (ps_set (i := 5) scNext.nd rfl (Or.inl rfl) (pe_meth0 (pv 1) TR.cl mN GN hr1 bN .nil pass0))
        (pss_one (ps_ret (pe_meth (pv 0) TH.cl mB GB hr2 bB .nil pass0 (pa_cons (pv 3) (pa_cons (pv 4) (pa_cons (pv 5) pa_nil))))))))) pss_nil)
      (pss_cons (ps_if (pt_cmpR op_eq (pv 2) (pe_cn c1) (nomark _)) (pss_one (ps_ret (pe_meth (pv 0) TH.cl mA GA hr3 bA .nil pass0 (pa_cons (pe_meth0 (pv 1) TR.cl mR GR hr2 bR .nil pass0) pa_nil)))) pss_nil)
      (pss_cons (ps_if (pt_cmpR op_eq (pv 2) (pe_cn c2) (nomark _))
        (pss_cons (ps_set (i := 4) scNext.nd rfl (Or.inl rfl) (pe_meth0 (pv 1) TR.cl mN GN hr1 bN .nil pass0))
        (pss_cons (ps_set (i := 5) scNext.nd rfl (Or.inl rfl) (pe_meth0 (pv 1) TR.cl mN GN hr1 bN .nil pass0))
        (pss_one (ps_ret (pe_meth (pv 0) TH.cl mF GF hr2 bF .nil pass0 (pa_cons (pv 4) (pa_cons (pv 5) pa_nil))))))) pss_nil)
      (pss_cons (ps_if (pt_cmpR op_eq (pv 2) (pe_cn c3) (nomark _)) (pss_one (ps_ret (pe_meth (pv 0) TH.cl mP GP hr2 bP .nil pass0 (pa_cons (pe_meth0 (pv 1) TR.cl mR GR hr2 bR .nil pass0) pa_nil)))) pss_nil)
      (pss_cons (ps_if (pt_cmpR op_eq (pv 2) (pe_cn c4) (nomark _)) (pss_one (ps_ret (pe_meth0 (pv 0) TH.cl mG GG hr4 bG .nil pass0))) pss_nil)
      (pss_cons (ps_if (pt_cmpR op_eq (pv 2) (pe_cn c5) (nomark _)) (pss_one (ps_ret (pe_meth0 (pv 0) TH.cl mL GL hr5 bL .nil pass0))) pss_nil)
      (pss_cons (ps_if (pt_cmpR op_eq (pv 2) (pe_cn c6) (nomark _)) (pss_one (ps_ret (pe_meth0 (pv 0) TH.cl mO GO hr bO .nil pass0))) pss_nil)
      (pss_cons (ps_if (pt_cmpR op_eq (pv 2) (pe_cn c7) (nomark _)) (pss_one (ps_ret (pe_meth0 (pv 0) TH.cl mI GI hr bI .nil pass0))) pss_nil)
      (pss_cons (ps_if (pt_cmpR op_eq (pv 2) (pe_cn c8) (nomark _)) (pss_one (ps_ret (pe_meth (pv 0) TH.cl mW GW hr bW .nil pass0 (pa_cons (pe_meth0 (pv 1) TR.cl mN GN hr1 bN .nil pass0) pa_nil)))) pss_nil)
      (pss_cons (ps_if (pt_cmpR op_eq (pv 2) (pe_cn c9) (nomark _)) (pss_one (ps_ret (pe_meth0 (pv 0) TH.cl mX GX hr bX .nil pass0))) pss_nil)
      (pss_one ps_never))))))))))), ?_⟩
    -- the reader's next number, then more of it
    have num : ∀ (σ : L2.St) (H1 : Hp) (j : Nat) (z : Int) (R : VK), σ[1]? = some (some (.ref r)) → But H H1 r → ReaderAt CR H1 r a j → ns[j]? = some z → (∀ H2, But H H2 r → ReaderAt CR H2 r a (j + 1) → R (.int z) H2) → tMeth CR "number" (spNumber K CR) [] E0 (tVar 1) tNil σ H1 R := by
      intro σ H1 j z R hσ b1 rd hz kk
      obtain ⟨dx, rd'⟩ := id rd
      obtain ⟨dx0, hrd0⟩ := id hrd
      exact ⟨_, hσ, r, dx, _, rfl, rd', rF_no _ _ (by decide +kernel), r, a, j, ns, z, rfl, rd, b1.seq hrd0 ha, hz, fun H2 q1 q2 => kk H2 (b1.trans q2) q1⟩
    have b0 : But H H r := fun _ _ e _ => e
    have nohF : ∀ {m : Str} (hm : hK.contains m = false) {H1 : Hp}, But H H1 r → ∃ (a' dx : Addr) (fs : List (Str × V)), V.ref h = .ref a' ∧ H1 a' = some (.ins CH dx fs) ∧ fs.lookup m = none := by
      intro m hm H1 b1
      obtain ⟨dx, ps, h1, _⟩ := hh.but hrd b1
      exact ⟨h, dx, _, rfl, h1, hF_no _ _ _ hm⟩
    cases hf with
    | begins x y z =>
      have l0 : ns.drop i = 0 :: x :: y :: z :: t := hreads
      obtain ⟨g0, l1⟩ := drop_get l0
      obtain ⟨g1, l2⟩ := drop_get l1
      obtain ⟨g2, l3⟩ := drop_get l2
      obtain ⟨g3, l4⟩ := drop_get l3
      have px : 0 ≤ x := hfine.1 _ (List.mem_singleton.mpr rfl) x (by simp)
      have py : 0 ≤ y := hfine.1 _ (List.mem_singleton.mpr rfl) y (by simp)
      have pz : 0 ≤ z := hfine.1 _ (List.mem_singleton.mpr rfl) z (by simp)
      refine num _ H i 0 _ rfl b0 hrd g0 fun H1 b1 rd1 => ?_
      refine ⟨_, rfl, rfl, _, rfl, if_yes (int_eq 0) ?_⟩
      refine num _ H1 _ x _ rfl b1 rd1 g1 fun H2 b2 rd2 => ?_
      refine num _ H2 _ y _ rfl b2 rd2 g2 fun H3 b3 rd3 => ?_
      refine num _ H3 _ z _ rfl b3 rd3 g3 fun H4 b4 rd4 => ?_
      obtain ⟨a', dx, fs, e1, e2, e3⟩ := nohF (m := "begins") (by decide +kernel) b4
      refine ⟨_, rfl, a', dx, fs, e1, e2, e3, _, rfl, _, rfl, _, rfl, h, la, lp, st, x.toNat, y.toNat, z.toNat, ?_, hh.but hrd b4, k.next rfl (hh.but hrd b4) rd4 b4 l4 (by omega)⟩
      rw [← vz px, ← vz py, ← vz pz]
      rfl
    | act l =>
      have l0 : ns.drop i = 1 :: (l.length : Int) :: (l ++ t) := hreads
      obtain ⟨g0, l1⟩ := drop_get l0
      obtain ⟨g1, l2⟩ := drop_get l1
      have hl8 := hfine.2 1 l rfl
      have hpos : ∀ x ∈ l, (0 : Int) ≤ x := hfine.1 l (by simp)
      refine num _ H i 1 _ rfl b0 hrd g0 fun H1 b1 rd1 => ?_
      refine ⟨_, rfl, rfl, _, rfl, if_no (int_ne (by decide)) ?_⟩
      refine ⟨_, rfl, rfl, _, rfl, if_yes (int_eq 1) ?_⟩
      obtain ⟨a', dx, fs, e1, e2, e3⟩ := nohF (m := "act") (by decide +kernel) b1
      obtain ⟨dr, rd1'⟩ := id rd1
      obtain ⟨dr0, hrd0⟩ := id hrd
      have hlen : i + 1 + 1 + l.length ≤ ns.length := by
        have := congrArg List.length l2
        rw [List.length_drop, List.length_append] at this
        have g1' := (List.getElem?_eq_some_iff.mp g1).1
        omega
      refine ⟨_, rfl, a', dx, fs, e1, e2, e3, _, rfl, r, dr, _, rfl, rd1', rF_no _ _ (by decide +kernel), r, a, i + 1, l.length, ns, rfl, rd1, b1.seq hrd0 ha, g1, hlen, fun H2 p rd2 b2 np hp => ?_⟩
      have b3 := b1.trans b2
      rw [l2, List.take_left' rfl, row_nat hpos] at hp
      refine ⟨h, la, lp, p, st, Pn14Neutral.nats l, rfl, hh.but hrd b3, ho, SqL.of hp, by unfold Pn14Neutral.nats; rw [List.length_map]; exact hl8, k.next rfl (hh.but hrd b3) rd2 b3 ?_ (by omega)⟩
      rw [← List.drop_drop, l2, List.drop_left' rfl]
    | from_ x y =>
      have l0 : ns.drop i = 2 :: x :: y :: t := hreads
      obtain ⟨g0, l1⟩ := drop_get l0
      obtain ⟨g1, l2⟩ := drop_get l1
      obtain ⟨g2, l3⟩ := drop_get l2
      have px : 0 ≤ x := hfine.1 _ (List.mem_singleton.mpr rfl) x (by simp)
      have py : 0 ≤ y := hfine.1 _ (List.mem_singleton.mpr rfl) y (by simp)
      refine num _ H i 2 _ rfl b0 hrd g0 fun H1 b1 rd1 => ?_
      refine ⟨_, rfl, rfl, _, rfl, if_no (int_ne (by decide)) ?_⟩
      refine ⟨_, rfl, rfl, _, rfl, if_no (int_ne (by decide)) ?_⟩
      refine ⟨_, rfl, rfl, _, rfl, if_yes (int_eq 2) ?_⟩
      refine num _ H1 _ x _ rfl b1 rd1 g1 fun H2 b2 rd2 => ?_
      refine num _ H2 _ y _ rfl b2 rd2 g2 fun H3 b3 rd3 => ?_
      obtain ⟨a', dx, fs, e1, e2, e3⟩ := nohF (m := "from_state") (by decide +kernel) b3
      refine ⟨_, rfl, a', dx, fs, e1, e2, e3, _, rfl, _, rfl, h, la, lp, st, x.toNat, y.toNat, ?_, hh.but hrd b3, k.next rfl (hh.but hrd b3) rd3 b3 l3 (by omega)⟩
      rw [← vz px, ← vz py]
      rfl
    | prices l =>
      have l0 : ns.drop i = 3 :: (l.length : Int) :: (l ++ t) := hreads
      obtain ⟨g0, l1⟩ := drop_get l0
      obtain ⟨g1, l2⟩ := drop_get l1
      have hl8 := hfine.2 3 l rfl
      have hpos : ∀ x ∈ l, (0 : Int) ≤ x := hfine.1 l (by simp)
      refine num _ H i 3 _ rfl b0 hrd g0 fun H1 b1 rd1 => ?_
      refine ⟨_, rfl, rfl, _, rfl, if_no (int_ne (by decide)) ?_⟩
      refine ⟨_, rfl, rfl, _, rfl, if_no (int_ne (by decide)) ?_⟩
      refine ⟨_, rfl, rfl, _, rfl, if_no (int_ne (by decide)) ?_⟩
      refine ⟨_, rfl, rfl, _, rfl, if_yes (int_eq 3) ?_⟩
      obtain ⟨a', dx, fs, e1, e2, e3⟩ := nohF (m := "prices") (by decide +kernel) b1
      obtain ⟨dr, rd1'⟩ := id rd1
      obtain ⟨dr0, hrd0⟩ := id hrd
      have hlen : i + 1 + 1 + l.length ≤ ns.length := by
        have := congrArg List.length l2
        rw [List.length_drop, List.length_append] at this
        have g1' := (List.getElem?_eq_some_iff.mp g1).1
        omega
      refine ⟨_, rfl, a', dx, fs, e1, e2, e3, _, rfl, r, dr, _, rfl, rd1', rF_no _ _ (by decide +kernel), r, a, i + 1, l.length, ns, rfl, rd1, b1.seq hrd0 ha, g1, hlen, fun H2 p rd2 b2 np hp => ?_⟩
      have b3 := b1.trans b2
      rw [l2, List.take_left' rfl, row_nat hpos] at hp
      refine ⟨h, la, lp, p, st, Pn14Neutral.nats l, rfl, hh.but hrd b3, SqL.of hp, by unfold Pn14Neutral.nats; rw [List.length_map]; exact hl8, k.next rfl (hh.but hrd b3) rd2 b3 ?_ (by omega)⟩
      rw [← List.drop_drop, l2, List.drop_left' rfl]
    | plain p hp =>
      rcases hp with rfl | rfl | rfl | rfl | rfl
      · have l0 : ns.drop i = 4 :: t := hreads
        obtain ⟨g0, l1⟩ := drop_get l0
        refine num _ H i 4 _ rfl b0 hrd g0 fun H1 b1 rd1 => ?_
        refine ⟨_, rfl, rfl, _, rfl, if_no (int_ne (by decide)) ?_⟩
        refine ⟨_, rfl, rfl, _, rfl, if_no (int_ne (by decide)) ?_⟩
        refine ⟨_, rfl, rfl, _, rfl, if_no (int_ne (by decide)) ?_⟩
        refine ⟨_, rfl, rfl, _, rfl, if_no (int_ne (by decide)) ?_⟩
        refine ⟨_, rfl, rfl, _, rfl, if_yes (int_eq 4) ?_⟩
        obtain ⟨a', dx, fs, e1, e2, e3⟩ := nohF (m := "greatest") (by decide +kernel) b1
        exact ⟨_, rfl, a', dx, fs, e1, e2, e3, h, la, lp, st, rfl, hh.but hrd b1, ho, k.next rfl (hh.but hrd b1) rd1 b1 l1 (by omega)⟩
      · have l0 : ns.drop i = 5 :: t := hreads
        obtain ⟨g0, l1⟩ := drop_get l0
        refine num _ H i 5 _ rfl b0 hrd g0 fun H1 b1 rd1 => ?_
        refine ⟨_, rfl, rfl, _, rfl, if_no (int_ne (by decide)) ?_⟩
        refine ⟨_, rfl, rfl, _, rfl, if_no (int_ne (by decide)) ?_⟩
        refine ⟨_, rfl, rfl, _, rfl, if_no (int_ne (by decide)) ?_⟩
        refine ⟨_, rfl, rfl, _, rfl, if_no (int_ne (by decide)) ?_⟩
        refine ⟨_, rfl, rfl, _, rfl, if_no (int_ne (by decide)) ?_⟩
        refine ⟨_, rfl, rfl, _, rfl, if_yes (int_eq 5) ?_⟩
        obtain ⟨a', dx, fs, e1, e2, e3⟩ := nohF (m := "least") (by decide +kernel) b1
        exact ⟨_, rfl, a', dx, fs, e1, e2, e3, h, la, lp, st, rfl, hh.but hrd b1, ho, k.next rfl (hh.but hrd b1) rd1 b1 l1 (by omega)⟩
      · have l0 : ns.drop i = 6 :: t := hreads
        obtain ⟨g0, l1⟩ := drop_get l0
        refine num _ H i 6 _ rfl b0 hrd g0 fun H1 b1 rd1 => ?_
        refine ⟨_, rfl, rfl, _, rfl, if_no (int_ne (by decide)) ?_⟩
        refine ⟨_, rfl, rfl, _, rfl, if_no (int_ne (by decide)) ?_⟩
        refine ⟨_, rfl, rfl, _, rfl, if_no (int_ne (by decide)) ?_⟩
        refine ⟨_, rfl, rfl, _, rfl, if_no (int_ne (by decide)) ?_⟩
        refine ⟨_, rfl, rfl, _, rfl, if_no (int_ne (by decide)) ?_⟩
        refine ⟨_, rfl, rfl, _, rfl, if_no (int_ne (by decide)) ?_⟩
        refine ⟨_, rfl, rfl, _, rfl, if_yes (int_eq 6) ?_⟩
        obtain ⟨a', dx, fs, e1, e2, e3⟩ := nohF (m := "otherwise") (by decide +kernel) b1
        exact ⟨_, rfl, a', dx, fs, e1, e2, e3, h, la, lp, st, rfl, hh.but hrd b1, ho, k.next rfl (hh.but hrd b1) rd1 b1 l1 (by omega)⟩
      · have l0 : ns.drop i = 7 :: t := hreads
        obtain ⟨g0, l1⟩ := drop_get l0
        refine num _ H i 7 _ rfl b0 hrd g0 fun H1 b1 rd1 => ?_
        refine ⟨_, rfl, rfl, _, rfl, if_no (int_ne (by decide)) ?_⟩
        refine ⟨_, rfl, rfl, _, rfl, if_no (int_ne (by decide)) ?_⟩
        refine ⟨_, rfl, rfl, _, rfl, if_no (int_ne (by decide)) ?_⟩
        refine ⟨_, rfl, rfl, _, rfl, if_no (int_ne (by decide)) ?_⟩
        refine ⟨_, rfl, rfl, _, rfl, if_no (int_ne (by decide)) ?_⟩
        refine ⟨_, rfl, rfl, _, rfl, if_no (int_ne (by decide)) ?_⟩
        refine ⟨_, rfl, rfl, _, rfl, if_no (int_ne (by decide)) ?_⟩
        refine ⟨_, rfl, rfl, _, rfl, if_yes (int_eq 7) ?_⟩
        obtain ⟨a', dx, fs, e1, e2, e3⟩ := nohF (m := "inway") (by decide +kernel) b1
        exact ⟨_, rfl, a', dx, fs, e1, e2, e3, h, la, lp, st, rfl, hh.but hrd b1, ho, k.next rfl (hh.but hrd b1) rd1 b1 l1 (by omega)⟩
      · have l0 : ns.drop i = 9 :: t := hreads
        obtain ⟨g0, l1⟩ := drop_get l0
        refine num _ H i 9 _ rfl b0 hrd g0 fun H1 b1 rd1 => ?_
        refine ⟨_, rfl, rfl, _, rfl, if_no (int_ne (by decide)) ?_⟩
        refine ⟨_, rfl, rfl, _, rfl, if_no (int_ne (by decide)) ?_⟩
        refine ⟨_, rfl, rfl, _, rfl, if_no (int_ne (by decide)) ?_⟩
        refine ⟨_, rfl, rfl, _, rfl, if_no (int_ne (by decide)) ?_⟩
        refine ⟨_, rfl, rfl, _, rfl, if_no (int_ne (by decide)) ?_⟩
        refine ⟨_, rfl, rfl, _, rfl, if_no (int_ne (by decide)) ?_⟩
        refine ⟨_, rfl, rfl, _, rfl, if_no (int_ne (by decide)) ?_⟩
        refine ⟨_, rfl, rfl, _, rfl, if_no (int_ne (by decide)) ?_⟩
        refine ⟨_, rfl, rfl, _, rfl, if_no (int_ne (by decide)) ?_⟩
        refine ⟨_, rfl, rfl, _, rfl, if_yes (int_eq 9) ?_⟩
        obtain ⟨a', dx, fs, e1, e2, e3⟩ := nohF (m := "plan") (by decide +kernel) b1
        exact ⟨_, rfl, a', dx, fs, e1, e2, e3, h, la, lp, st, rfl, hh.but hrd b1, ho, k.next rfl (hh.but hrd b1) rd1 b1 l1 (by omega)⟩
    | why x =>
      have l0 : ns.drop i = 8 :: x :: t := hreads
      obtain ⟨g0, l1⟩ := drop_get l0
      obtain ⟨g1, l2⟩ := drop_get l1
      have px : 0 ≤ x := hfine.1 _ (List.mem_singleton.mpr rfl) x (by simp)
      refine num _ H i 8 _ rfl b0 hrd g0 fun H1 b1 rd1 => ?_
      refine ⟨_, rfl, rfl, _, rfl, if_no (int_ne (by decide)) ?_⟩
      refine ⟨_, rfl, rfl, _, rfl, if_no (int_ne (by decide)) ?_⟩
      refine ⟨_, rfl, rfl, _, rfl, if_no (int_ne (by decide)) ?_⟩
      refine ⟨_, rfl, rfl, _, rfl, if_no (int_ne (by decide)) ?_⟩
      refine ⟨_, rfl, rfl, _, rfl, if_no (int_ne (by decide)) ?_⟩
      refine ⟨_, rfl, rfl, _, rfl, if_no (int_ne (by decide)) ?_⟩
      refine ⟨_, rfl, rfl, _, rfl, if_no (int_ne (by decide)) ?_⟩
      refine ⟨_, rfl, rfl, _, rfl, if_no (int_ne (by decide)) ?_⟩
      refine ⟨_, rfl, rfl, _, rfl, if_yes (int_eq 8) ?_⟩
      obtain ⟨a', dx, fs, e1, e2, e3⟩ := nohF (m := "why") (by decide +kernel) b1
      refine ⟨_, rfl, a', dx, fs, e1, e2, e3, num _ H1 _ x _ rfl b1 rd1 g1 fun H2 b2 rd2 => ?_⟩
      refine ⟨h, la, lp, st, x.toNat, ?_, hh.but hrd b2, ho, k.next rfl (hh.but hrd b2) rd2 b2 l2 (by omega)⟩
      rw [← vz px]
      rfl
end
end Wn

set_option Elab.async false
set_option maxRecDepth 100000
set_option maxHeartbeats 4000000
/-! answers. -/
namespace Wn
open PySem PySem.Spec PyProof.Rows L2
abbrev sAns : Stmt := top 48
def spAns (K : PySem.W.Frag) (Known : List (List Int) → Prop) : Sp := fun vs H Q _ => ∃ (a : Addr) (ns : List Int) (cs : List (List (List Int))), vs = [.ref a] ∧ SqL K H a (ns.map V.int) ∧ Row_ ns cs ∧ (∀ c ∈ cs, Fine c ∧ Known c) ∧
  (PyFlat.told (PyFlat.played Pn14Neutral.step Pn14Neutral.start cs)).length ≤ 10000000 ∧
  ∀ (H' : Hp) (p : Addr), H' p = some (.lst ((PyFlat.told (PyFlat.played Pn14Neutral.step Pn14Neutral.start cs)).map V.int)) → Q (.ref p) H'
theorem told_cons (x : List Int) (l : List (List Int)) : PyFlat.told (x :: l) = (x.length : Int) :: (x ++ PyFlat.told l) := by
  unfold PyFlat.told
  rw [List.flatMap_cons]
  rfl
theorem row_nil {cs : List (List (List Int))} (h : Row_ [] cs) : cs = [] := by
  generalize e : ([] : List Int) = l at h
  cases h with
  | nil => rfl
  | cons f r _ =>
    subst e
    cases f with
    | plain p hp => rcases hp with rfl | rfl | rfl | rfl | rfl <;> cases r
    | _ => cases r
theorem big {n : Nat} (h : n ≤ 10000000) : n < sizeLine := Nat.lt_of_le_of_lt h (by rw [sizeLine_eq]; decide)
section
variable {P : Program} {w : World} {K : PySem.W.Frag} {mg : Str → Option Value} {base : Heap} {CH CA CR : Addr} {Known : List (List Int) → Prop}
theorem scAns : FnScope ["calls", "house", "reader", "given", "answer"] ["calls"] (defScope sAns) := ⟨rfl, rfl, rfl, by decide +kernel, rfl, by decide +kernel, by decide +kernel⟩
theorem ok_ans {kN : Nat} (hkN : 2 ≤ kN) {f fH fR fM fX : Addr} {fd fdH fdR fdM fdX : FuncData} (F : Fun K "answers" "answers" sAns f fd) (TR : TxR K CR) (len : mg "len" = none)
    (MH : Mk K CH fH) (GH : FnOk P w K mg base CX0 1 fH fdH ["self"] (spHInit CH CA)) (bH : Binds K fdH ["self"] []) (gH : mg "House" = some (.ref CH))
    (MR : Mk K CR fR) (GR : FnOk P w K mg base CX0 1 fR fdR ["self", "calls"] (spRInit CR)) (bR : Binds K fdR ["self", "calls"] []) (gR : mg "Reader" = some (.ref CR))
    (GM : FnOk P w K mg base CX0 1 fM fdM ["self"] (spMore K CR)) (bM : Binds K fdM ["self"] []) (mM : Meth K CR "has_more" fM)
    (GX : FnOk P w K mg base CX0 kN fX fdX ["house", "reader"] (spNext K CH CA CR Known)) (bX : Binds K fdX ["house", "reader"] []) (gX : mg "next_answer" = some (.ref fX)) (kX : PySem.W.keepIn K (.ref fX) = true) :
    FnOk P w K mg base CX0 (kN + 1) f fd ["calls"] (spAns K Known) := by
  refine F.ok scAns (fun vs H Q E h => ?_) (fun cdv A outer s H vs Q E hr h => ?_)
  · obtain ⟨a, ns, cs, rfl, _⟩ := h
    rfl
  · obtain ⟨a, ns, cs, rfl, ha, hrow, hcs, hlen, k⟩ := h
    have hr1 : Room 1 _ := hr.mono (Nat.le_trans (by decide) hkN)
    have hr2 : Room 2 _ := hr.mono hkN
    refine ⟨_, pss_cons (ps_set (i := 1) scAns.nd rfl (Or.inl rfl) (pe_make0 MH GH hr2 rfl gH bH .nil pass0))
      (pss_cons (ps_set (i := 2) scAns.nd rfl (Or.inl rfl) (pe_make MR GR hr2 rfl gR bR .nil pass0 (pa_cons (pv 0) pa_nil)))
      (pss_cons (ps_set (i := 3) scAns.nd rfl (Or.inl rfl) (pe_lst pa_nil))
      (pss_cons (ps_while PassesOwn.never (pt_val (pe_meth0 (pv 2) TR.cl mM GM hr1 bM .nil pass0))
        (pss_cons (ps_set (i := 4) scAns.nd rfl (Or.inl rfl) (pe_call GX hr rfl gX kX bX .nil pass0 (pa_cons (pv 1) (pa_cons (pv 2) pa_nil))))
        (pss_cons (ps_expr (pe_bm PySem.F.plainAttrs_list PySem.F.slot_list_append PySem.F.type_list_append mt_append (pv 3) (pa_cons (pe_callB call_len_seq (by rfl) len PySem.boot_len (pa_cons (pv 4) pa_nil)) pa_nil)))
        (pss_one (ps_expr (pe_bm PySem.F.plainAttrs_list PySem.F.slot_list_extend PySem.F.type_list_extend mt_extend (pv 3) (pa_cons (pv 4) pa_nil)))))))
      (pss_one (ps_ret (pv 3)))))), ?_⟩
    intro h dh nh ndh neh
    refine ⟨h, dh, rfl, upd_same, fun H1 la lp hh nla nlp kp1 => ⟨rfl, ?_⟩⟩
    have s1 : Same H H1 := Same.made nh ndh kp1
    have nla' : H la = Option.none := (upd_none (upd_none nla).2).2
    have nlp' : H lp = Option.none := (upd_none (upd_none nlp).2).2
    refine ⟨_, rfl, ?_⟩
    intro r dr nr ndr ner
    refine ⟨r, dr, a, rfl, upd_same, fun H2 rd kp2 => ⟨rfl, ?_⟩⟩
    have s2 : Same H1 H2 := Same.made nr ndr kp2
    refine ⟨Nat.zero_le _, fun g ng => ?_⟩
    have s3 : Same H2 (upd H2 g (.lst [])) := same_new ng
    have sA : Same H2 (upd H2 g (.lst [])) := s3
    have nrH : H r = Option.none := s1.free nr
    have ngH : H g = Option.none := s1.free (s2.free ng)
    obtain ⟨dxh, psh, hh1, hh2, hh3, hh4, hh5⟩ := id (hh.same s2)
    refine ⟨fun m σ H' => ∃ (la lp : Addr) (i : Nat) (st : Pn14.House) (cs' : List (List (List Int))) (don : List Int) (v4 : Option V), m = ns.length - i ∧ σ = [some (.ref a), some (.ref h), some (.ref r), some (.ref g), v4] ∧ Same H H' ∧
      HouseAt CH CA H' h la lp st ∧ HOk st ∧ ReaderAt CR H' r a i ∧ Row_ (ns.drop i) cs' ∧ (∀ c ∈ cs', Fine c ∧ Known c) ∧ H' g = some (.lst (don.map V.int)) ∧ don ++ PyFlat.told (PyFlat.played Pn14Neutral.step st cs') = PyFlat.told (PyFlat.played Pn14Neutral.step Pn14Neutral.start cs) ∧
      H la = Option.none ∧ H lp = Option.none ∧ g ≠ la ∧ g ≠ lp, ⟨_, la, lp, 0, Pn14.init, cs, [], none, rfl, rfl, (s1.trans s2).trans s3, (hh.same s2).same s3, init_ok, ?_, hrow, hcs, upd_same, rfl, nla', nlp', ?_, ?_⟩, ?_⟩
    · obtain ⟨dx, rd⟩ := rd
      exact ⟨dx, s3 _ _ rd⟩
    · exact fun z => by
        rw [z, hh2] at ng
        cases ng
    · exact fun z => by
        rw [z, hh3] at ng
        cases ng
    · rintro m σ H' ⟨la, lp, i, st, cs', don, v4, rfl, rfl, sH, hh, ho, rd, hrow, hcs, hg, heq, nla, nlp, ngl, ngp⟩
      obtain ⟨dx, rd'⟩ := id rd
      refine ⟨_, rfl, r, dx, _, rfl, rd', rF_no _ _ (by decide +kernel), r, a, i, ns, rfl, rd, sH.seq ha, _, rfl, ?_⟩
      have hdl : don.length ≤ 10000000 := by
        have := congrArg List.length heq
        rw [List.length_append] at this
        omega
      by_cases hi : i < ns.length
      · refine if_yes (decide_eq_true hi) ?_
        obtain ⟨c, t, rest, rfl, hf, hre, hrest⟩ : ∃ c t rest, cs' = c :: rest ∧ Form c ∧ Reads (ns.drop i) c t ∧ Row_ t rest := by
          cases hrow' : cs' with
          | nil =>
            rw [hrow'] at hrow
            have hnil : ns.drop i = [] := by
              generalize ns.drop i = l at hrow
              cases hrow
              rfl
            have := congrArg List.length hnil
            rw [List.length_drop, List.length_nil] at this
            omega
          | cons c rest =>
            rw [hrow'] at hrow
            generalize ns.drop i = l at hrow
            cases hrow with
            | cons h1 h2 h3 => exact ⟨c, _, rest, rfl, h1, h2, h3⟩
        have hc := hcs c (List.mem_cons_self ..)
        refine ⟨fun σ' H2 => ∃ (la lp : Addr) (i' : Nat) (v4 : Option V) (don' : List Int), i < i' ∧ σ' = [some (.ref a), some (.ref h), some (.ref r), some (.ref g), v4] ∧ Same H H2 ∧ HouseAt CH CA H2 h la lp (Pn14Neutral.step st c).1 ∧ HOk (Pn14Neutral.step st c).1 ∧ ReaderAt CR H2 r a i' ∧ Row_ (ns.drop i') rest ∧
          H2 g = some (.lst (don'.map V.int)) ∧ don' ++ PyFlat.told (PyFlat.played Pn14Neutral.step (Pn14Neutral.step st c).1 rest) = PyFlat.told (PyFlat.played Pn14Neutral.step Pn14Neutral.start cs) ∧ H la = Option.none ∧ H lp = Option.none ∧ g ≠ la ∧ g ≠ lp, ?_, ?_⟩
        · rintro σ' H2 ⟨la2, lp2, i', w4, don', q0, rfl, q1, q2, q3, q4, q5, q6, q7, q8, q9, q10, q11⟩
          exact ⟨_, by omega, la2, lp2, i', _, rest, don', w4, rfl, rfl, q1, q2, q3, q4, q5, fun x hx => hcs x (List.mem_cons_of_mem _ hx), q6, q7, q8, q9, q10, q11⟩
        · refine ⟨_, rfl, _, rfl, h, la, lp, r, a, st, i, ns, c, t, rfl, hh, ho, rd, sH.seq ha, hf, hre, hc.1, hc.2, ?_⟩
          intro H2 p la2 lp2 i' hh2 rd2 hdr hi' ela elp fr np hp
          obtain ⟨dh0, ps0, k1, k2, k3, k4, k5⟩ := id hh
          have ngh : g ≠ h := ne_of hg k1 fun z => by cases z
          have ngr : g ≠ r := ne_of hg rd' fun z => by cases z
          have hg2 : H2 g = some (.lst (don.map V.int)) := fr _ _ hg ngh ngl ngr
          have ngp' : g ≠ p := ne_of_none hg np
          have e1 : don ++ ((Pn14Neutral.step st c).2.length : Int) :: ((Pn14Neutral.step st c).2 ++ PyFlat.told (PyFlat.played Pn14Neutral.step (Pn14Neutral.step st c).1 rest)) = PyFlat.told (PyFlat.played Pn14Neutral.step Pn14Neutral.start cs) := by
            rw [← heq]
            show _ = don ++ PyFlat.told ((Pn14Neutral.step st c).2 :: PyFlat.played Pn14Neutral.step (Pn14Neutral.step st c).1 rest)
            rw [told_cons]
          have hl2 : don.length + 1 + (Pn14Neutral.step st c).2.length ≤ 10000000 := by
            have := congrArg List.length e1
            rw [List.length_append, List.length_cons, List.length_append] at this
            omega
          refine ⟨_, rfl, .inl ⟨rfl, _, SqL.of hg2⟩, _, rfl, p, _, rfl, .inl (SqL.of hp), g, _, _, rfl, rfl, hg2, big (by rw [List.length_map]; exact hdl), ?_⟩
          refine ⟨_, rfl, .inl ⟨rfl, _, SqL.of upd_same⟩, _, rfl, g, p, _, _, rfl, rfl, upd_same, Eq.trans (upd_ne ngp'.symm) hp, Nat.le_of_lt (big (by rw [List.length_append, List.length_map, List.length_map, List.length_singleton]; exact hl2)), ?_⟩
          have nlg2 : g ≠ la2 := by
            rcases ela with z | z
            · rw [z]; exact ngl
            · exact ne_of_none hg z
          have npg2 : g ≠ lp2 := by
            rcases elp with z | z
            · rw [z]; exact ngp
            · exact ne_of_none hg z
          have hH2 : Same H H2 := fun b o e => by
            have nb : b ≠ h := ne_of_none e nh
            have nb2 : b ≠ la := ne_of_none e nla
            have nb3 : b ≠ r := ne_of_none e nrH
            exact fr b o (sH b o e) nb nb2 nb3
          have bt : ∀ (u : List V) b o, H2 b = some o → b ≠ g → upd (upd H2 g (.lst (don.map V.int ++ [V.int (((Pn14Neutral.step st c).2.map V.int).length : Nat)]))) g (.lst u) b = some o := fun u b o e nb => by
            rw [upd_ne nb, upd_ne nb]
            exact e
          obtain ⟨dh2, ps2, m1, m2, m3, m4, m5⟩ := id hh2
          obtain ⟨dr2, rd3⟩ := id rd2
          refine ⟨la2, lp2, i', _, don ++ ((Pn14Neutral.step st c).2.length : Int) :: (Pn14Neutral.step st c).2, hi', rfl, same_upd (same_upd hH2 ngH) ngH, ⟨dh2, ps2, bt _ _ _ m1 (ne_of m1 hg2 fun z => by cases z), bt _ _ _ m2 nlg2.symm, bt _ _ _ m3 npg2.symm, m4.keep fun q dy x hq => bt _ _ _ hq (ne_of hq hg2 fun z => by cases z), m5⟩, nstep_ok ho c, ⟨dr2, bt _ _ _ rd3 (ne_of rd3 hg2 fun z => by cases z)⟩, ?_, ?_, ?_, ?_, ?_, nlg2, npg2⟩
          · rw [hdr]
            exact hrest
          · rw [upd_same, List.map_append, List.map_cons, List.length_map, List.append_assoc]
            rfl
          · rw [List.append_assoc, List.cons_append]
            exact e1
          · rcases ela with z | z
            · rw [z]; exact nla
            · exact sH.free z
          · rcases elp with z | z
            · rw [z]; exact nlp
            · exact sH.free z
      · refine if_no (decide_eq_false hi) ?_
        have hnil : ns.drop i = [] := List.drop_of_length_le (by omega)
        rw [hnil] at hrow
        have hcs0 := row_nil hrow
        subst hcs0
        refine ⟨_, rfl, k H' g ?_⟩
        have e2 : don = PyFlat.told (PyFlat.played Pn14Neutral.step Pn14Neutral.start cs) := by
          rw [← heq]
          exact (List.append_nil don).symm
        rw [← e2]
        exact hg
end
end Wn

set_option Elab.async false
set_option maxRecDepth 100000
set_option maxHeartbeats 4000000
namespace Wn
open PySem PySem.Spec PyProof.Rows L2
theorem all_mk {P : Program} {w : World} {K : PySem.W.Frag} {h : Heap} {mg : Str → Option Value} {fa CA CH CR fAI fAM fAB fAW fFI fHS fCB fIL fLS fAS fCC fCF fCT fTH fKC fFP fXT fCW fIA fRS fLG fGS fHI fHB fHA fHF fHP fHG fHE fHO fHN fHW fHX fHC fRI fRM fRN fRR fAF fIC fNA fAN : Addr} {tBEGINS tACT tFROM_STATE tPRICES tGREATEST tLEAST tOTHERWISE tINWAY tWHY tPLAN tNO_SUCH_ACT tTHERE_IS_A_PLAN tNO_PLAN tMOST_FACTS tMOST_ACTS tMOST_COST tACT_NUMBERS tDONE tNOT_AS_TOLD tACTS_ARE_FULL : Tok}
    (X : K.In h) (G : h.Ns mainGlobals mg) (hfa : mg "answers" = some (.ref fa))
    {odAI anAI : Option Addr} {slAI : Array (Option Value)} {ocAI kVAI dcAI pmAI cdAI ctAI : Value}
    {odAM anAM : Option Addr} {slAM : Array (Option Value)} {ocAM kVAM dcAM pmAM cdAM ctAM : Value}
    {odAB anAB : Option Addr} {slAB : Array (Option Value)} {ocAB kVAB dcAB pmAB cdAB ctAB : Value}
    {odAW anAW : Option Addr} {slAW : Array (Option Value)} {ocAW kVAW dcAW pmAW cdAW ctAW : Value}
    {odFI anFI : Option Addr} {slFI : Array (Option Value)} {ocFI kVFI dcFI pmFI cdFI ctFI : Value}
    {odHS anHS : Option Addr} {slHS : Array (Option Value)} {ocHS kVHS dcHS pmHS cdHS ctHS : Value}
    {odCB anCB : Option Addr} {slCB : Array (Option Value)} {ocCB kVCB dcCB pmCB cdCB ctCB : Value}
    {odIL anIL : Option Addr} {slIL : Array (Option Value)} {ocIL kVIL dcIL pmIL cdIL ctIL : Value}
    {odLS anLS : Option Addr} {slLS : Array (Option Value)} {ocLS kVLS dcLS pmLS cdLS ctLS : Value}
    {odAS anAS : Option Addr} {slAS : Array (Option Value)} {ocAS kVAS dcAS pmAS cdAS ctAS : Value}
    {odCC anCC : Option Addr} {slCC : Array (Option Value)} {ocCC kVCC dcCC pmCC cdCC ctCC : Value}
    {odCF anCF : Option Addr} {slCF : Array (Option Value)} {ocCF kVCF dcCF pmCF cdCF ctCF : Value}
    {odCT anCT : Option Addr} {slCT : Array (Option Value)} {ocCT kVCT dcCT pmCT cdCT ctCT : Value}
    {odTH anTH : Option Addr} {slTH : Array (Option Value)} {ocTH kVTH dcTH pmTH cdTH ctTH : Value}
    {odKC anKC : Option Addr} {slKC : Array (Option Value)} {ocKC kVKC dcKC pmKC cdKC ctKC : Value}
    {odFP anFP : Option Addr} {slFP : Array (Option Value)} {ocFP kVFP dcFP pmFP cdFP ctFP : Value}
    {odXT anXT : Option Addr} {slXT : Array (Option Value)} {ocXT kVXT dcXT pmXT cdXT ctXT : Value}
    {odCW anCW : Option Addr} {slCW : Array (Option Value)} {ocCW kVCW dcCW pmCW cdCW ctCW : Value}
    {odIA anIA : Option Addr} {slIA : Array (Option Value)} {ocIA kVIA dcIA pmIA cdIA ctIA : Value}
    {odRS anRS : Option Addr} {slRS : Array (Option Value)} {ocRS kVRS dcRS pmRS cdRS ctRS : Value}
    {odLG anLG : Option Addr} {slLG : Array (Option Value)} {ocLG kVLG dcLG pmLG cdLG ctLG : Value}
    {odGS anGS : Option Addr} {slGS : Array (Option Value)} {ocGS kVGS dcGS pmGS cdGS ctGS : Value}
    {odHI anHI : Option Addr} {slHI : Array (Option Value)} {ocHI kVHI dcHI pmHI cdHI ctHI : Value}
    {odHB anHB : Option Addr} {slHB : Array (Option Value)} {ocHB kVHB dcHB pmHB cdHB ctHB : Value}
    {odHA anHA : Option Addr} {slHA : Array (Option Value)} {ocHA kVHA dcHA pmHA cdHA ctHA : Value}
    {odHF anHF : Option Addr} {slHF : Array (Option Value)} {ocHF kVHF dcHF pmHF cdHF ctHF : Value}
    {odHP anHP : Option Addr} {slHP : Array (Option Value)} {ocHP kVHP dcHP pmHP cdHP ctHP : Value}
    {odHG anHG : Option Addr} {slHG : Array (Option Value)} {ocHG kVHG dcHG pmHG cdHG ctHG : Value}
    {odHE anHE : Option Addr} {slHE : Array (Option Value)} {ocHE kVHE dcHE pmHE cdHE ctHE : Value}
    {odHO anHO : Option Addr} {slHO : Array (Option Value)} {ocHO kVHO dcHO pmHO cdHO ctHO : Value}
    {odHN anHN : Option Addr} {slHN : Array (Option Value)} {ocHN kVHN dcHN pmHN cdHN ctHN : Value}
    {odHW anHW : Option Addr} {slHW : Array (Option Value)} {ocHW kVHW dcHW pmHW cdHW ctHW : Value}
    {odHX anHX : Option Addr} {slHX : Array (Option Value)} {ocHX kVHX dcHX pmHX cdHX ctHX : Value}
    {odHC anHC : Option Addr} {slHC : Array (Option Value)} {ocHC kVHC dcHC pmHC cdHC ctHC : Value}
    {odRI anRI : Option Addr} {slRI : Array (Option Value)} {ocRI kVRI dcRI pmRI cdRI ctRI : Value}
    {odRM anRM : Option Addr} {slRM : Array (Option Value)} {ocRM kVRM dcRM pmRM cdRM ctRM : Value}
    {odRN anRN : Option Addr} {slRN : Array (Option Value)} {ocRN kVRN dcRN pmRN cdRN ctRN : Value}
    {odRR anRR : Option Addr} {slRR : Array (Option Value)} {ocRR kVRR dcRR pmRR cdRR ctRR : Value}
    {odAF anAF : Option Addr} {slAF : Array (Option Value)} {ocAF kVAF dcAF pmAF cdAF ctAF : Value}
    {odIC anIC : Option Addr} {slIC : Array (Option Value)} {ocIC kVIC dcIC pmIC cdIC ctIC : Value}
    {odNA anNA : Option Addr} {slNA : Array (Option Value)} {ocNA kVNA dcNA pmNA cdNA ctNA : Value}
    {odAN anAN : Option Addr} {slAN : Array (Option Value)} {ocAN kVAN dcAN pmAN cdAN ctAN : Value}
    (gCA : PySem.W.nsIn K mainGlobals "Act" = some (some (.ref CA)))
    (gCH : PySem.W.nsIn K mainGlobals "House" = some (some (.ref CH)))
    (gCR : PySem.W.nsIn K mainGlobals "Reader" = some (some (.ref CR)))
    (aAI : PySem.W.findIn K (.ref CA) "__init__" = some (some (.ref fAI)))
    (iAI : PySem.W.isFn K (.ref fAI) = true)
    (lAI : K.lookup fAI = some ⟨ocAI, odAI, .func (PySem.W.fnOf "__init__" "Act.__init__" (defArgs sActInit) (defBody sActInit) (defScope sActInit) .none kVAI dcAI pmAI anAI cdAI ctAI), slAI⟩)
    (cAI : PySem.W.codeIn K cdAI "Act.__init__" = true)
    (kAI : PySem.W.keepIn K (.ref fAI) = true)
    (aAM : PySem.W.findIn K (.ref CA) "may_be_done" = some (some (.ref fAM)))
    (iAM : PySem.W.isFn K (.ref fAM) = true)
    (lAM : K.lookup fAM = some ⟨ocAM, odAM, .func (PySem.W.fnOf "may_be_done" "Act.may_be_done" (defArgs sMay) (defBody sMay) (defScope sMay) .none kVAM dcAM pmAM anAM cdAM ctAM), slAM⟩)
    (cAM : PySem.W.codeIn K cdAM "Act.may_be_done" = true)
    (kAM : PySem.W.keepIn K (.ref fAM) = true)
    (aAB : PySem.W.findIn K (.ref CA) "state_behind" = some (some (.ref fAB)))
    (iAB : PySem.W.isFn K (.ref fAB) = true)
    (lAB : K.lookup fAB = some ⟨ocAB, odAB, .func (PySem.W.fnOf "state_behind" "Act.state_behind" (defArgs sBehind) (defBody sBehind) (defScope sBehind) .none kVAB dcAB pmAB anAB cdAB ctAB), slAB⟩)
    (cAB : PySem.W.codeIn K cdAB "Act.state_behind" = true)
    (kAB : PySem.W.keepIn K (.ref fAB) = true)
    (aAW : PySem.W.findIn K (.ref CA) "without_condition" = some (some (.ref fAW)))
    (iAW : PySem.W.isFn K (.ref fAW) = true)
    (lAW : K.lookup fAW = some ⟨ocAW, odAW, .func (PySem.W.fnOf "without_condition" "Act.without_condition" (defArgs sWithout) (defBody sWithout) (defScope sWithout) .none kVAW dcAW pmAW anAW cdAW ctAW), slAW⟩)
    (cAW : PySem.W.codeIn K cdAW "Act.without_condition" = true)
    (kAW : PySem.W.keepIn K (.ref fAW) = true)
    (aFI : PySem.W.nsIn K mainGlobals "facts_in" = some (some (.ref fFI)))
    (lFI : K.lookup fFI = some ⟨ocFI, odFI, .func (PySem.W.fnOf "facts_in" "facts_in" (defArgs sFactsIn) (defBody sFactsIn) (defScope sFactsIn) .none kVFI dcFI pmFI anFI cdFI ctFI), slFI⟩)
    (cFI : PySem.W.codeIn K cdFI "facts_in" = true)
    (kFI : PySem.W.keepIn K (.ref fFI) = true)
    (aHS : PySem.W.nsIn K mainGlobals "has_all" = some (some (.ref fHS)))
    (lHS : K.lookup fHS = some ⟨ocHS, odHS, .func (PySem.W.fnOf "has_all" "has_all" (defArgs sHasAll) (defBody sHasAll) (defScope sHasAll) .none kVHS dcHS pmHS anHS cdHS ctHS), slHS⟩)
    (cHS : PySem.W.codeIn K cdHS "has_all" = true)
    (kHS : PySem.W.keepIn K (.ref fHS) = true)
    (aCB : PySem.W.nsIn K mainGlobals "can_be_had" = some (some (.ref fCB)))
    (lCB : K.lookup fCB = some ⟨ocCB, odCB, .func (PySem.W.fnOf "can_be_had" "can_be_had" (defArgs sCanBe) (defBody sCanBe) (defScope sCanBe) .none kVCB dcCB pmCB anCB cdCB ctCB), slCB⟩)
    (cCB : PySem.W.codeIn K cdCB "can_be_had" = true)
    (kCB : PySem.W.keepIn K (.ref fCB) = true)
    (aIL : PySem.W.nsIn K mainGlobals "is_least" = some (some (.ref fIL)))
    (lIL : K.lookup fIL = some ⟨ocIL, odIL, .func (PySem.W.fnOf "is_least" "is_least" (defArgs sIsLeast) (defBody sIsLeast) (defScope sIsLeast) .none kVIL dcIL pmIL anIL cdIL ctIL), slIL⟩)
    (cIL : PySem.W.codeIn K cdIL "is_least" = true)
    (kIL : PySem.W.keepIn K (.ref fIL) = true)
    (aLS : PySem.W.nsIn K mainGlobals "least_sets" = some (some (.ref fLS)))
    (lLS : K.lookup fLS = some ⟨ocLS, odLS, .func (PySem.W.fnOf "least_sets" "least_sets" (defArgs sLeastSets) (defBody sLeastSets) (defScope sLeastSets) .none kVLS dcLS pmLS anLS cdLS ctLS), slLS⟩)
    (cLS : PySem.W.codeIn K cdLS "least_sets" = true)
    (kLS : PySem.W.keepIn K (.ref fLS) = true)
    (aAS : PySem.W.nsIn K mainGlobals "all_steps" = some (some (.ref fAS)))
    (lAS : K.lookup fAS = some ⟨ocAS, odAS, .func (PySem.W.fnOf "all_steps" "all_steps" (defArgs sAllSteps) (defBody sAllSteps) (defScope sAllSteps) .none kVAS dcAS pmAS anAS cdAS ctAS), slAS⟩)
    (cAS : PySem.W.codeIn K cdAS "all_steps" = true)
    (kAS : PySem.W.keepIn K (.ref fAS) = true)
    (aCC : PySem.W.nsIn K mainGlobals "cheapest_costs" = some (some (.ref fCC)))
    (lCC : K.lookup fCC = some ⟨ocCC, odCC, .func (PySem.W.fnOf "cheapest_costs" "cheapest_costs" (defArgs sCheapest) (defBody sCheapest) (defScope sCheapest) .none kVCC dcCC pmCC anCC cdCC ctCC), slCC⟩)
    (cCC : PySem.W.codeIn K cdCC "cheapest_costs" = true)
    (kCC : PySem.W.keepIn K (.ref fCC) = true)
    (aCF : PySem.W.nsIn K mainGlobals "costs_from" = some (some (.ref fCF)))
    (lCF : K.lookup fCF = some ⟨ocCF, odCF, .func (PySem.W.fnOf "costs_from" "costs_from" (defArgs sCostsFrom) (defBody sCostsFrom) (defScope sCostsFrom) .none kVCF dcCF pmCF anCF cdCF ctCF), slCF⟩)
    (cCF : PySem.W.codeIn K cdCF "costs_from" = true)
    (kCF : PySem.W.keepIn K (.ref fCF) = true)
    (aCT : PySem.W.nsIn K mainGlobals "costs_to" = some (some (.ref fCT)))
    (lCT : K.lookup fCT = some ⟨ocCT, odCT, .func (PySem.W.fnOf "costs_to" "costs_to" (defArgs sCostsTo) (defBody sCostsTo) (defScope sCostsTo) .none kVCT dcCT pmCT anCT cdCT ctCT), slCT⟩)
    (cCT : PySem.W.codeIn K cdCT "costs_to" = true)
    (kCT : PySem.W.keepIn K (.ref fCT) = true)
    (aTH : PySem.W.nsIn K mainGlobals "costs_through" = some (some (.ref fTH)))
    (lTH : K.lookup fTH = some ⟨ocTH, odTH, .func (PySem.W.fnOf "costs_through" "costs_through" (defArgs sThrough) (defBody sThrough) (defScope sThrough) .none kVTH dcTH pmTH anTH cdTH ctTH), slTH⟩)
    (cTH : PySem.W.codeIn K cdTH "costs_through" = true)
    (kTH : PySem.W.keepIn K (.ref fTH) = true)
    (aKC : PySem.W.nsIn K mainGlobals "keeps_cheapest" = some (some (.ref fKC)))
    (lKC : K.lookup fKC = some ⟨ocKC, odKC, .func (PySem.W.fnOf "keeps_cheapest" "keeps_cheapest" (defArgs sKeeps) (defBody sKeeps) (defScope sKeeps) .none kVKC dcKC pmKC anKC cdKC ctKC), slKC⟩)
    (cKC : PySem.W.codeIn K cdKC "keeps_cheapest" = true)
    (kKC : PySem.W.keepIn K (.ref fKC) = true)
    (aFP : PySem.W.nsIn K mainGlobals "first_cheapest_plan" = some (some (.ref fFP)))
    (lFP : K.lookup fFP = some ⟨ocFP, odFP, .func (PySem.W.fnOf "first_cheapest_plan" "first_cheapest_plan" (defArgs sFirstPlan) (defBody sFirstPlan) (defScope sFirstPlan) .none kVFP dcFP pmFP anFP cdFP ctFP), slFP⟩)
    (cFP : PySem.W.codeIn K cdFP "first_cheapest_plan" = true)
    (kFP : PySem.W.keepIn K (.ref fFP) = true)
    (aXT : PySem.W.nsIn K mainGlobals "change_to" = some (some (.ref fXT)))
    (lXT : K.lookup fXT = some ⟨ocXT, odXT, .func (PySem.W.fnOf "change_to" "change_to" (defArgs sChange) (defBody sChange) (defScope sChange) .none kVXT dcXT pmXT anXT cdXT ctXT), slXT⟩)
    (cXT : PySem.W.codeIn K cdXT "change_to" = true)
    (kXT : PySem.W.keepIn K (.ref fXT) = true)
    (aCW : PySem.W.nsIn K mainGlobals "conditions_in_the_way" = some (some (.ref fCW)))
    (lCW : K.lookup fCW = some ⟨ocCW, odCW, .func (PySem.W.fnOf "conditions_in_the_way" "conditions_in_the_way" (defArgs sConditions) (defBody sConditions) (defScope sConditions) .none kVCW dcCW pmCW anCW cdCW ctCW), slCW⟩)
    (cCW : PySem.W.codeIn K cdCW "conditions_in_the_way" = true)
    (kCW : PySem.W.keepIn K (.ref fCW) = true)
    (aIA : PySem.W.nsIn K mainGlobals "cheapest_if_any" = some (some (.ref fIA)))
    (lIA : K.lookup fIA = some ⟨ocIA, odIA, .func (PySem.W.fnOf "cheapest_if_any" "cheapest_if_any" (defArgs sIfAny) (defBody sIfAny) (defScope sIfAny) .none kVIA dcIA pmIA anIA cdIA ctIA), slIA⟩)
    (cIA : PySem.W.codeIn K cdIA "cheapest_if_any" = true)
    (kIA : PySem.W.keepIn K (.ref fIA) = true)
    (aRS : PySem.W.nsIn K mainGlobals "reached_states" = some (some (.ref fRS)))
    (lRS : K.lookup fRS = some ⟨ocRS, odRS, .func (PySem.W.fnOf "reached_states" "reached_states" (defArgs sReached) (defBody sReached) (defScope sReached) .none kVRS dcRS pmRS anRS cdRS ctRS), slRS⟩)
    (cRS : PySem.W.codeIn K cdRS "reached_states" = true)
    (kRS : PySem.W.keepIn K (.ref fRS) = true)
    (aLG : PySem.W.nsIn K mainGlobals "lies_in_greater" = some (some (.ref fLG)))
    (lLG : K.lookup fLG = some ⟨ocLG, odLG, .func (PySem.W.fnOf "lies_in_greater" "lies_in_greater" (defArgs sLies) (defBody sLies) (defScope sLies) .none kVLG dcLG pmLG anLG cdLG ctLG), slLG⟩)
    (cLG : PySem.W.codeIn K cdLG "lies_in_greater" = true)
    (kLG : PySem.W.keepIn K (.ref fLG) = true)
    (aGS : PySem.W.nsIn K mainGlobals "greatest_sets" = some (some (.ref fGS)))
    (lGS : K.lookup fGS = some ⟨ocGS, odGS, .func (PySem.W.fnOf "greatest_sets" "greatest_sets" (defArgs sGreatestSets) (defBody sGreatestSets) (defScope sGreatestSets) .none kVGS dcGS pmGS anGS cdGS ctGS), slGS⟩)
    (cGS : PySem.W.codeIn K cdGS "greatest_sets" = true)
    (kGS : PySem.W.keepIn K (.ref fGS) = true)
    (aHI : PySem.W.findIn K (.ref CH) "__init__" = some (some (.ref fHI)))
    (iHI : PySem.W.isFn K (.ref fHI) = true)
    (lHI : K.lookup fHI = some ⟨ocHI, odHI, .func (PySem.W.fnOf "__init__" "House.__init__" (defArgs sHInit) (defBody sHInit) (defScope sHInit) .none kVHI dcHI pmHI anHI cdHI ctHI), slHI⟩)
    (cHI : PySem.W.codeIn K cdHI "House.__init__" = true)
    (kHI : PySem.W.keepIn K (.ref fHI) = true)
    (aHB : PySem.W.findIn K (.ref CH) "begins" = some (some (.ref fHB)))
    (iHB : PySem.W.isFn K (.ref fHB) = true)
    (lHB : K.lookup fHB = some ⟨ocHB, odHB, .func (PySem.W.fnOf "begins" "House.begins" (defArgs sBegins) (defBody sBegins) (defScope sBegins) .none kVHB dcHB pmHB anHB cdHB ctHB), slHB⟩)
    (cHB : PySem.W.codeIn K cdHB "House.begins" = true)
    (kHB : PySem.W.keepIn K (.ref fHB) = true)
    (aHA : PySem.W.findIn K (.ref CH) "act" = some (some (.ref fHA)))
    (iHA : PySem.W.isFn K (.ref fHA) = true)
    (lHA : K.lookup fHA = some ⟨ocHA, odHA, .func (PySem.W.fnOf "act" "House.act" (defArgs sActM) (defBody sActM) (defScope sActM) .none kVHA dcHA pmHA anHA cdHA ctHA), slHA⟩)
    (cHA : PySem.W.codeIn K cdHA "House.act" = true)
    (kHA : PySem.W.keepIn K (.ref fHA) = true)
    (aHF : PySem.W.findIn K (.ref CH) "from_state" = some (some (.ref fHF)))
    (iHF : PySem.W.isFn K (.ref fHF) = true)
    (lHF : K.lookup fHF = some ⟨ocHF, odHF, .func (PySem.W.fnOf "from_state" "House.from_state" (defArgs sFrom) (defBody sFrom) (defScope sFrom) .none kVHF dcHF pmHF anHF cdHF ctHF), slHF⟩)
    (cHF : PySem.W.codeIn K cdHF "House.from_state" = true)
    (kHF : PySem.W.keepIn K (.ref fHF) = true)
    (aHP : PySem.W.findIn K (.ref CH) "prices" = some (some (.ref fHP)))
    (iHP : PySem.W.isFn K (.ref fHP) = true)
    (lHP : K.lookup fHP = some ⟨ocHP, odHP, .func (PySem.W.fnOf "prices" "House.prices" (defArgs sPrices) (defBody sPrices) (defScope sPrices) .none kVHP dcHP pmHP anHP cdHP ctHP), slHP⟩)
    (cHP : PySem.W.codeIn K cdHP "House.prices" = true)
    (kHP : PySem.W.keepIn K (.ref fHP) = true)
    (aHG : PySem.W.findIn K (.ref CH) "greatest" = some (some (.ref fHG)))
    (iHG : PySem.W.isFn K (.ref fHG) = true)
    (lHG : K.lookup fHG = some ⟨ocHG, odHG, .func (PySem.W.fnOf "greatest" "House.greatest" (defArgs sGreatest) (defBody sGreatest) (defScope sGreatest) .none kVHG dcHG pmHG anHG cdHG ctHG), slHG⟩)
    (cHG : PySem.W.codeIn K cdHG "House.greatest" = true)
    (kHG : PySem.W.keepIn K (.ref fHG) = true)
    (aHE : PySem.W.findIn K (.ref CH) "least" = some (some (.ref fHE)))
    (iHE : PySem.W.isFn K (.ref fHE) = true)
    (lHE : K.lookup fHE = some ⟨ocHE, odHE, .func (PySem.W.fnOf "least" "House.least" (defArgs sLeast) (defBody sLeast) (defScope sLeast) .none kVHE dcHE pmHE anHE cdHE ctHE), slHE⟩)
    (cHE : PySem.W.codeIn K cdHE "House.least" = true)
    (kHE : PySem.W.keepIn K (.ref fHE) = true)
    (aHO : PySem.W.findIn K (.ref CH) "otherwise" = some (some (.ref fHO)))
    (iHO : PySem.W.isFn K (.ref fHO) = true)
    (lHO : K.lookup fHO = some ⟨ocHO, odHO, .func (PySem.W.fnOf "otherwise" "House.otherwise" (defArgs sOtherwise) (defBody sOtherwise) (defScope sOtherwise) .none kVHO dcHO pmHO anHO cdHO ctHO), slHO⟩)
    (cHO : PySem.W.codeIn K cdHO "House.otherwise" = true)
    (kHO : PySem.W.keepIn K (.ref fHO) = true)
    (aHN : PySem.W.findIn K (.ref CH) "inway" = some (some (.ref fHN)))
    (iHN : PySem.W.isFn K (.ref fHN) = true)
    (lHN : K.lookup fHN = some ⟨ocHN, odHN, .func (PySem.W.fnOf "inway" "House.inway" (defArgs sInway) (defBody sInway) (defScope sInway) .none kVHN dcHN pmHN anHN cdHN ctHN), slHN⟩)
    (cHN : PySem.W.codeIn K cdHN "House.inway" = true)
    (kHN : PySem.W.keepIn K (.ref fHN) = true)
    (aHW : PySem.W.findIn K (.ref CH) "why" = some (some (.ref fHW)))
    (iHW : PySem.W.isFn K (.ref fHW) = true)
    (lHW : K.lookup fHW = some ⟨ocHW, odHW, .func (PySem.W.fnOf "why" "House.why" (defArgs sWhy) (defBody sWhy) (defScope sWhy) .none kVHW dcHW pmHW anHW cdHW ctHW), slHW⟩)
    (cHW : PySem.W.codeIn K cdHW "House.why" = true)
    (kHW : PySem.W.keepIn K (.ref fHW) = true)
    (aHX : PySem.W.findIn K (.ref CH) "plan" = some (some (.ref fHX)))
    (iHX : PySem.W.isFn K (.ref fHX) = true)
    (lHX : K.lookup fHX = some ⟨ocHX, odHX, .func (PySem.W.fnOf "plan" "House.plan" (defArgs sPlan) (defBody sPlan) (defScope sPlan) .none kVHX dcHX pmHX anHX cdHX ctHX), slHX⟩)
    (cHX : PySem.W.codeIn K cdHX "House.plan" = true)
    (kHX : PySem.W.keepIn K (.ref fHX) = true)
    (aHC : PySem.W.findIn K (.ref CH) "plan_costs" = some (some (.ref fHC)))
    (iHC : PySem.W.isFn K (.ref fHC) = true)
    (lHC : K.lookup fHC = some ⟨ocHC, odHC, .func (PySem.W.fnOf "plan_costs" "House.plan_costs" (defArgs sPlanCosts) (defBody sPlanCosts) (defScope sPlanCosts) .none kVHC dcHC pmHC anHC cdHC ctHC), slHC⟩)
    (cHC : PySem.W.codeIn K cdHC "House.plan_costs" = true)
    (kHC : PySem.W.keepIn K (.ref fHC) = true)
    (aRI : PySem.W.findIn K (.ref CR) "__init__" = some (some (.ref fRI)))
    (iRI : PySem.W.isFn K (.ref fRI) = true)
    (lRI : K.lookup fRI = some ⟨ocRI, odRI, .func (PySem.W.fnOf "__init__" "Reader.__init__" (defArgs sRInit) (defBody sRInit) (defScope sRInit) .none kVRI dcRI pmRI anRI cdRI ctRI), slRI⟩)
    (cRI : PySem.W.codeIn K cdRI "Reader.__init__" = true)
    (kRI : PySem.W.keepIn K (.ref fRI) = true)
    (aRM : PySem.W.findIn K (.ref CR) "has_more" = some (some (.ref fRM)))
    (iRM : PySem.W.isFn K (.ref fRM) = true)
    (lRM : K.lookup fRM = some ⟨ocRM, odRM, .func (PySem.W.fnOf "has_more" "Reader.has_more" (defArgs sMore) (defBody sMore) (defScope sMore) .none kVRM dcRM pmRM anRM cdRM ctRM), slRM⟩)
    (cRM : PySem.W.codeIn K cdRM "Reader.has_more" = true)
    (kRM : PySem.W.keepIn K (.ref fRM) = true)
    (aRN : PySem.W.findIn K (.ref CR) "number" = some (some (.ref fRN)))
    (iRN : PySem.W.isFn K (.ref fRN) = true)
    (lRN : K.lookup fRN = some ⟨ocRN, odRN, .func (PySem.W.fnOf "number" "Reader.number" (defArgs sNumber) (defBody sNumber) (defScope sNumber) .none kVRN dcRN pmRN anRN cdRN ctRN), slRN⟩)
    (cRN : PySem.W.codeIn K cdRN "Reader.number" = true)
    (kRN : PySem.W.keepIn K (.ref fRN) = true)
    (aRR : PySem.W.findIn K (.ref CR) "row" = some (some (.ref fRR)))
    (iRR : PySem.W.isFn K (.ref fRR) = true)
    (lRR : K.lookup fRR = some ⟨ocRR, odRR, .func (PySem.W.fnOf "row" "Reader.row" (defArgs sRow) (defBody sRow) (defScope sRow) .none kVRR dcRR pmRR anRR cdRR ctRR), slRR⟩)
    (cRR : PySem.W.codeIn K cdRR "Reader.row" = true)
    (kRR : PySem.W.keepIn K (.ref fRR) = true)
    (aAF : PySem.W.nsIn K mainGlobals "are_fact_sets" = some (some (.ref fAF)))
    (lAF : K.lookup fAF = some ⟨ocAF, odAF, .func (PySem.W.fnOf "are_fact_sets" "are_fact_sets" (defArgs sAre) (defBody sAre) (defScope sAre) .none kVAF dcAF pmAF anAF cdAF ctAF), slAF⟩)
    (cAF : PySem.W.codeIn K cdAF "are_fact_sets" = true)
    (kAF : PySem.W.keepIn K (.ref fAF) = true)
    (aIC : PySem.W.nsIn K mainGlobals "is_cost" = some (some (.ref fIC)))
    (lIC : K.lookup fIC = some ⟨ocIC, odIC, .func (PySem.W.fnOf "is_cost" "is_cost" (defArgs sIsCost) (defBody sIsCost) (defScope sIsCost) .none kVIC dcIC pmIC anIC cdIC ctIC), slIC⟩)
    (cIC : PySem.W.codeIn K cdIC "is_cost" = true)
    (kIC : PySem.W.keepIn K (.ref fIC) = true)
    (aNA : PySem.W.nsIn K mainGlobals "next_answer" = some (some (.ref fNA)))
    (lNA : K.lookup fNA = some ⟨ocNA, odNA, .func (PySem.W.fnOf "next_answer" "next_answer" (defArgs sNext) (defBody sNext) (defScope sNext) .none kVNA dcNA pmNA anNA cdNA ctNA), slNA⟩)
    (cNA : PySem.W.codeIn K cdNA "next_answer" = true)
    (kNA : PySem.W.keepIn K (.ref fNA) = true)
    (aAN : PySem.W.nsIn K mainGlobals "answers" = some (some (.ref fAN)))
    (lAN : K.lookup fAN = some ⟨ocAN, odAN, .func (PySem.W.fnOf "answers" "answers" (defArgs sAns) (defBody sAns) (defScope sAns) .none kVAN dcAN pmAN anAN cdAN ctAN), slAN⟩)
    (cAN : PySem.W.codeIn K cdAN "answers" = true)
    (kAN : PySem.W.keepIn K (.ref fAN) = true)
    (pgCA : PySem.W.plainGet K CA Str.empty = true)
    (hdCA : PySem.W.hasDictIn K CA = true)
    (poCA : PySem.W.plainOver K CA = true)
    (saCA : PySem.W.findIn K (.ref CA) "__setattr__" = some (some (.builtin "object.__setattr__")))
    (mkCA : PySem.W.makesIn K CA = true)
    (kcCA : PySem.W.keepIn K (.ref CA) = true)
    (nCA1 : PySem.W.findIn K (.ref CA) "needs" = some none)
    (nCA2 : PySem.W.findIn K (.ref CA) "bars" = some none)
    (nCA3 : PySem.W.findIn K (.ref CA) "brings" = some none)
    (nCA4 : PySem.W.findIn K (.ref CA) "takes" = some none)
    (nCA5 : PySem.W.findIn K (.ref CA) "cost" = some none)
    (pgCH : PySem.W.plainGet K CH Str.empty = true)
    (hdCH : PySem.W.hasDictIn K CH = true)
    (poCH : PySem.W.plainOver K CH = true)
    (saCH : PySem.W.findIn K (.ref CH) "__setattr__" = some (some (.builtin "object.__setattr__")))
    (mkCH : PySem.W.makesIn K CH = true)
    (kcCH : PySem.W.keepIn K (.ref CH) = true)
    (nCH1 : PySem.W.findIn K (.ref CH) "fact_count" = some none)
    (nCH2 : PySem.W.findIn K (.ref CH) "first" = some none)
    (nCH3 : PySem.W.findIn K (.ref CH) "wanted" = some none)
    (nCH4 : PySem.W.findIn K (.ref CH) "acts" = some none)
    (nCH5 : PySem.W.findIn K (.ref CH) "price_list" = some none)
    (pgCR : PySem.W.plainGet K CR Str.empty = true)
    (hdCR : PySem.W.hasDictIn K CR = true)
    (poCR : PySem.W.plainOver K CR = true)
    (saCR : PySem.W.findIn K (.ref CR) "__setattr__" = some (some (.builtin "object.__setattr__")))
    (mkCR : PySem.W.makesIn K CR = true)
    (kcCR : PySem.W.keepIn K (.ref CR) = true)
    (nCR1 : PySem.W.findIn K (.ref CR) "calls" = some none)
    (nCR2 : PySem.W.findIn K (.ref CR) "place" = some none)
    (zBEGINS : PySem.W.nsIn K mainGlobals "BEGINS" = some (some (.int 0 tBEGINS)))
    (zACT : PySem.W.nsIn K mainGlobals "ACT" = some (some (.int 1 tACT)))
    (zFROM_STATE : PySem.W.nsIn K mainGlobals "FROM_STATE" = some (some (.int 2 tFROM_STATE)))
    (zPRICES : PySem.W.nsIn K mainGlobals "PRICES" = some (some (.int 3 tPRICES)))
    (zGREATEST : PySem.W.nsIn K mainGlobals "GREATEST" = some (some (.int 4 tGREATEST)))
    (zLEAST : PySem.W.nsIn K mainGlobals "LEAST" = some (some (.int 5 tLEAST)))
    (zOTHERWISE : PySem.W.nsIn K mainGlobals "OTHERWISE" = some (some (.int 6 tOTHERWISE)))
    (zINWAY : PySem.W.nsIn K mainGlobals "INWAY" = some (some (.int 7 tINWAY)))
    (zWHY : PySem.W.nsIn K mainGlobals "WHY" = some (some (.int 8 tWHY)))
    (zPLAN : PySem.W.nsIn K mainGlobals "PLAN" = some (some (.int 9 tPLAN)))
    (zNO_SUCH_ACT : PySem.W.nsIn K mainGlobals "NO_SUCH_ACT" = some (some (.int (-2) tNO_SUCH_ACT)))
    (zTHERE_IS_A_PLAN : PySem.W.nsIn K mainGlobals "THERE_IS_A_PLAN" = some (some (.int (-3) tTHERE_IS_A_PLAN)))
    (zNO_PLAN : PySem.W.nsIn K mainGlobals "NO_PLAN" = some (some (.int (-6) tNO_PLAN)))
    (zMOST_FACTS : PySem.W.nsIn K mainGlobals "MOST_FACTS" = some (some (.int 5 tMOST_FACTS)))
    (zMOST_ACTS : PySem.W.nsIn K mainGlobals "MOST_ACTS" = some (some (.int 8 tMOST_ACTS)))
    (zMOST_COST : PySem.W.nsIn K mainGlobals "MOST_COST" = some (some (.int 1000 tMOST_COST)))
    (zACT_NUMBERS : PySem.W.nsIn K mainGlobals "ACT_NUMBERS" = some (some (.int 5 tACT_NUMBERS)))
    (zDONE : PySem.W.nsIn K mainGlobals "DONE" = some (some (.int 0 tDONE)))
    (zNOT_AS_TOLD : PySem.W.nsIn K mainGlobals "NOT_AS_TOLD" = some (some (.int (-1) tNOT_AS_TOLD)))
    (zACTS_ARE_FULL : PySem.W.nsIn K mainGlobals "ACTS_ARE_FULL" = some (some (.int (-7) tACTS_ARE_FULL)))
    (blen : PySem.W.nsIn K mainGlobals "len" = some none)
    (bany : PySem.W.nsIn K mainGlobals "any" = some none)
    (ball : PySem.W.nsIn K mainGlobals "all" = some none)
    (bsorted : PySem.W.nsIn K mainGlobals "sorted" = some none)
    (bset : PySem.W.nsIn K mainGlobals "set" = some none)
    (blist : PySem.W.nsIn K mainGlobals "list" = some none)
    (brange : PySem.W.nsIn K mainGlobals "range" = some none)
    (bmin : PySem.W.nsIn K mainGlobals "min" = some none)
    (benumerate : PySem.W.nsIn K mainGlobals "enumerate" = some none)
    (bsum : PySem.W.nsIn K mainGlobals "sum" = some none) :
    ∃ fd : FuncData, (∀ (s : Shared) (us : List Value), us.length = (["calls"] : List Str).length → BindsTo s fd ⟨us, []⟩ ((["calls"] : List Str).zip us)) ∧ ∀ base : Heap, K.In base → base.Ns mainGlobals mg → FnOk P w K mg base CX0 8 fa fd ["calls"] (spAns K KnownAll) := by
  have e := hfa.symm.trans (PySem.W.mg_of X G aAN)
  cases e
  have TCA : TxA K CA := ⟨⟨pgCA, hdCA, poCA, saCA⟩, nCA1, nCA2, nCA3, nCA4, nCA5⟩
  have TCH : TxH K CH := ⟨⟨pgCH, hdCH, poCH, saCH⟩, nCH1, nCH2, nCH3, nCH4, nCH5⟩
  have TCR : TxR K CR := ⟨⟨pgCR, hdCR, poCR, saCR⟩, nCR1, nCR2⟩
  have yBEGINS : Cn mg "BEGINS" 0 := ⟨_, PySem.W.mg_of X G zBEGINS⟩
  have yACT : Cn mg "ACT" 1 := ⟨_, PySem.W.mg_of X G zACT⟩
  have yFROM_STATE : Cn mg "FROM_STATE" 2 := ⟨_, PySem.W.mg_of X G zFROM_STATE⟩
  have yPRICES : Cn mg "PRICES" 3 := ⟨_, PySem.W.mg_of X G zPRICES⟩
  have yGREATEST : Cn mg "GREATEST" 4 := ⟨_, PySem.W.mg_of X G zGREATEST⟩
  have yLEAST : Cn mg "LEAST" 5 := ⟨_, PySem.W.mg_of X G zLEAST⟩
  have yOTHERWISE : Cn mg "OTHERWISE" 6 := ⟨_, PySem.W.mg_of X G zOTHERWISE⟩
  have yINWAY : Cn mg "INWAY" 7 := ⟨_, PySem.W.mg_of X G zINWAY⟩
  have yWHY : Cn mg "WHY" 8 := ⟨_, PySem.W.mg_of X G zWHY⟩
  have yPLAN : Cn mg "PLAN" 9 := ⟨_, PySem.W.mg_of X G zPLAN⟩
  have yNO_SUCH_ACT : Cn mg "NO_SUCH_ACT" (-2) := ⟨_, PySem.W.mg_of X G zNO_SUCH_ACT⟩
  have yTHERE_IS_A_PLAN : Cn mg "THERE_IS_A_PLAN" (-3) := ⟨_, PySem.W.mg_of X G zTHERE_IS_A_PLAN⟩
  have yNO_PLAN : Cn mg "NO_PLAN" (-6) := ⟨_, PySem.W.mg_of X G zNO_PLAN⟩
  have yMOST_FACTS : Cn mg "MOST_FACTS" 5 := ⟨_, PySem.W.mg_of X G zMOST_FACTS⟩
  have yMOST_ACTS : Cn mg "MOST_ACTS" 8 := ⟨_, PySem.W.mg_of X G zMOST_ACTS⟩
  have yMOST_COST : Cn mg "MOST_COST" 1000 := ⟨_, PySem.W.mg_of X G zMOST_COST⟩
  have yACT_NUMBERS : Cn mg "ACT_NUMBERS" 5 := ⟨_, PySem.W.mg_of X G zACT_NUMBERS⟩
  have yDONE : Cn mg "DONE" 0 := ⟨_, PySem.W.mg_of X G zDONE⟩
  have yNOT_AS_TOLD : Cn mg "NOT_AS_TOLD" (-1) := ⟨_, PySem.W.mg_of X G zNOT_AS_TOLD⟩
  have yACTS_ARE_FULL : Cn mg "ACTS_ARE_FULL" (-7) := ⟨_, PySem.W.mg_of X G zACTS_ARE_FULL⟩
  have ylen : mg "len" = none := PySem.W.mg_none_of X G blen
  have yany : mg "any" = none := PySem.W.mg_none_of X G bany
  have yall : mg "all" = none := PySem.W.mg_none_of X G ball
  have ysorted : mg "sorted" = none := PySem.W.mg_none_of X G bsorted
  have yset : mg "set" = none := PySem.W.mg_none_of X G bset
  have ylist : mg "list" = none := PySem.W.mg_none_of X G blist
  have yrange : mg "range" = none := PySem.W.mg_none_of X G brange
  have ymin : mg "min" = none := PySem.W.mg_none_of X G bmin
  have yenumerate : mg "enumerate" = none := PySem.W.mg_none_of X G benumerate
  have ysum : mg "sum" = none := PySem.W.mg_none_of X G bsum
  have FAI := fun_mk (st := sActInit) lAI cAI kAI
  have BAI := FAI.binds (ps := ["self", "needs", "bars", "brings", "takes", "cost"]) fun _ _ _ _ _ _ us hl => match us, hl with | [_, _, _, _, _, _], _ => rfl
  have FAM := fun_mk (st := sMay) lAM cAM kAM
  have BAM := FAM.binds (ps := ["self", "state"]) fun _ _ _ _ _ _ us hl => match us, hl with | [_, _], _ => rfl
  have FAB := fun_mk (st := sBehind) lAB cAB kAB
  have BAB := FAB.binds (ps := ["self", "state"]) fun _ _ _ _ _ _ us hl => match us, hl with | [_, _], _ => rfl
  have FAW := fun_mk (st := sWithout) lAW cAW kAW
  have BAW := FAW.binds (ps := ["self", "fact"]) fun _ _ _ _ _ _ us hl => match us, hl with | [_, _], _ => rfl
  have FFI := fun_mk (st := sFactsIn) lFI cFI kFI
  have BFI := FFI.binds (ps := ["facts"]) fun _ _ _ _ _ _ us hl => match us, hl with | [_], _ => rfl
  have FHS := fun_mk (st := sHasAll) lHS cHS kHS
  have BHS := FHS.binds (ps := ["state", "facts"]) fun _ _ _ _ _ _ us hl => match us, hl with | [_, _], _ => rfl
  have FCB := fun_mk (st := sCanBe) lCB cCB kCB
  have BCB := FCB.binds (ps := ["wishes", "reached"]) fun _ _ _ _ _ _ us hl => match us, hl with | [_, _], _ => rfl
  have FIL := fun_mk (st := sIsLeast) lIL cIL kIL
  have BIL := FIL.binds (ps := ["wishes", "reached"]) fun _ _ _ _ _ _ us hl => match us, hl with | [_, _], _ => rfl
  have FLS := fun_mk (st := sLeastSets) lLS cLS kLS
  have BLS := FLS.binds (ps := ["reached", "wanted"]) fun _ _ _ _ _ _ us hl => match us, hl with | [_, _], _ => rfl
  have FAS := fun_mk (st := sAllSteps) lAS cAS kAS
  have BAS := FAS.binds (ps := ["acts", "fact_count"]) fun _ _ _ _ _ _ us hl => match us, hl with | [_, _], _ => rfl
  have FCC := fun_mk (st := sCheapest) lCC cCC kCC
  have BCC := FCC.binds (ps := ["starts", "steps"]) fun _ _ _ _ _ _ us hl => match us, hl with | [_, _], _ => rfl
  have FCF := fun_mk (st := sCostsFrom) lCF cCF kCF
  have BCF := FCF.binds (ps := ["first", "acts", "fact_count"]) fun _ _ _ _ _ _ us hl => match us, hl with | [_, _, _], _ => rfl
  have FCT := fun_mk (st := sCostsTo) lCT cCT kCT
  have BCT := FCT.binds (ps := ["wanted", "acts", "fact_count"]) fun _ _ _ _ _ _ us hl => match us, hl with | [_, _, _], _ => rfl
  have FTH := fun_mk (st := sThrough) lTH cTH kTH
  have BTH := FTH.binds (ps := ["act", "costs_ahead", "costs_behind"]) fun _ _ _ _ _ _ us hl => match us, hl with | [_, _, _], _ => rfl
  have FKC := fun_mk (st := sKeeps) lKC cKC kKC
  have BKC := FKC.binds (ps := ["act", "state", "costs"]) fun _ _ _ _ _ _ us hl => match us, hl with | [_, _, _], _ => rfl
  have FFP := fun_mk (st := sFirstPlan) lFP cFP kFP
  have BFP := FFP.binds (ps := ["first", "acts", "costs"]) fun _ _ _ _ _ _ us hl => match us, hl with | [_, _, _], _ => rfl
  have FXT := fun_mk (st := sChange) lXT cXT kXT
  have BXT := FXT.binds (ps := ["state", "first", "price_list"]) fun _ _ _ _ _ _ us hl => match us, hl with | [_, _, _], _ => rfl
  have FCW := fun_mk (st := sConditions) lCW cCW kCW
  have BCW := FCW.binds (ps := ["first", "wanted", "acts", "fact_count"]) fun _ _ _ _ _ _ us hl => match us, hl with | [_, _, _, _], _ => rfl
  have FIA := fun_mk (st := sIfAny) lIA cIA kIA
  have BIA := FIA.binds (ps := ["costs"]) fun _ _ _ _ _ _ us hl => match us, hl with | [_], _ => rfl
  have FRS := fun_mk (st := sReached) lRS cRS kRS
  have BRS := FRS.binds (ps := ["first", "acts"]) fun _ _ _ _ _ _ us hl => match us, hl with | [_, _], _ => rfl
  have FLG := fun_mk (st := sLies) lLG cLG kLG
  have BLG := FLG.binds (ps := ["wishes", "others"]) fun _ _ _ _ _ _ us hl => match us, hl with | [_, _], _ => rfl
  have FGS := fun_mk (st := sGreatestSets) lGS cGS kGS
  have BGS := FGS.binds (ps := ["reached", "wanted"]) fun _ _ _ _ _ _ us hl => match us, hl with | [_, _], _ => rfl
  have FHI := fun_mk (st := sHInit) lHI cHI kHI
  have BHI := FHI.binds (ps := ["self"]) fun _ _ _ _ _ _ us hl => match us, hl with | [_], _ => rfl
  have FHB := fun_mk (st := sBegins) lHB cHB kHB
  have BHB := FHB.binds (ps := ["self", "n", "first", "wanted"]) fun _ _ _ _ _ _ us hl => match us, hl with | [_, _, _, _], _ => rfl
  have FHA := fun_mk (st := sActM) lHA cHA kHA
  have BHA := FHA.binds (ps := ["self", "told"]) fun _ _ _ _ _ _ us hl => match us, hl with | [_, _], _ => rfl
  have FHF := fun_mk (st := sFrom) lHF cHF kHF
  have BHF := FHF.binds (ps := ["self", "first", "wanted"]) fun _ _ _ _ _ _ us hl => match us, hl with | [_, _, _], _ => rfl
  have FHP := fun_mk (st := sPrices) lHP cHP kHP
  have BHP := FHP.binds (ps := ["self", "each"]) fun _ _ _ _ _ _ us hl => match us, hl with | [_, _], _ => rfl
  have FHG := fun_mk (st := sGreatest) lHG cHG kHG
  have BHG := FHG.binds (ps := ["self"]) fun _ _ _ _ _ _ us hl => match us, hl with | [_], _ => rfl
  have FHE := fun_mk (st := sLeast) lHE cHE kHE
  have BHE := FHE.binds (ps := ["self"]) fun _ _ _ _ _ _ us hl => match us, hl with | [_], _ => rfl
  have FHO := fun_mk (st := sOtherwise) lHO cHO kHO
  have BHO := FHO.binds (ps := ["self"]) fun _ _ _ _ _ _ us hl => match us, hl with | [_], _ => rfl
  have FHN := fun_mk (st := sInway) lHN cHN kHN
  have BHN := FHN.binds (ps := ["self"]) fun _ _ _ _ _ _ us hl => match us, hl with | [_], _ => rfl
  have FHW := fun_mk (st := sWhy) lHW cHW kHW
  have BHW := FHW.binds (ps := ["self", "k"]) fun _ _ _ _ _ _ us hl => match us, hl with | [_, _], _ => rfl
  have FHX := fun_mk (st := sPlan) lHX cHX kHX
  have BHX := FHX.binds (ps := ["self"]) fun _ _ _ _ _ _ us hl => match us, hl with | [_], _ => rfl
  have FHC := fun_mk (st := sPlanCosts) lHC cHC kHC
  have BHC := FHC.binds (ps := ["self"]) fun _ _ _ _ _ _ us hl => match us, hl with | [_], _ => rfl
  have FRI := fun_mk (st := sRInit) lRI cRI kRI
  have BRI := FRI.binds (ps := ["self", "calls"]) fun _ _ _ _ _ _ us hl => match us, hl with | [_, _], _ => rfl
  have FRM := fun_mk (st := sMore) lRM cRM kRM
  have BRM := FRM.binds (ps := ["self"]) fun _ _ _ _ _ _ us hl => match us, hl with | [_], _ => rfl
  have FRN := fun_mk (st := sNumber) lRN cRN kRN
  have BRN := FRN.binds (ps := ["self"]) fun _ _ _ _ _ _ us hl => match us, hl with | [_], _ => rfl
  have FRR := fun_mk (st := sRow) lRR cRR kRR
  have BRR := FRR.binds (ps := ["self"]) fun _ _ _ _ _ _ us hl => match us, hl with | [_], _ => rfl
  have FAF := fun_mk (st := sAre) lAF cAF kAF
  have BAF := FAF.binds (ps := ["sets", "fact_count"]) fun _ _ _ _ _ _ us hl => match us, hl with | [_, _], _ => rfl
  have FIC := fun_mk (st := sIsCost) lIC cIC kIC
  have BIC := FIC.binds (ps := ["number"]) fun _ _ _ _ _ _ us hl => match us, hl with | [_], _ => rfl
  have FNA := fun_mk (st := sNext) lNA cNA kNA
  have BNA := FNA.binds (ps := ["house", "reader"]) fun _ _ _ _ _ _ us hl => match us, hl with | [_, _], _ => rfl
  have FAN := fun_mk (st := sAns) lAN cAN kAN
  have BAN := FAN.binds (ps := ["calls"]) fun _ _ _ _ _ _ us hl => match us, hl with | [_], _ => rfl
  refine ⟨PySem.W.fnOf "answers" "answers" (defArgs sAns) (defBody sAns) (defScope sAns) .none kVAN dcAN pmAN anAN cdAN ctAN, fun s us hu => match us, hu with | [_], _ => .of_eq rfl, fun base _ _ => ?_⟩
  have GAI : FnOk P w K mg base CX0 1 fAI _ _ (spActInit CA) := ok_actInit FAI TCA
  have GHS : FnOk P w K mg base CX0 1 fHS _ _ spHasAll := ok_hasAll FHS
  have GAM : FnOk P w K mg base CX0 2 fAM _ _ (spMay CA) := ok_may FAM TCA GHS BHS (PySem.W.mg_of X G aHS) kHS
  have GAB : FnOk P w K mg base CX0 1 fAB _ _ (spBehind CA) := ok_behind FAB TCA
  have GAW : FnOk P w K mg base CX0 3 fAW _ _ (spWithout CA) := ok_without FAW TCA ⟨mkCA, aAI, iAI, kcCA⟩ GAI BAI (PySem.W.mg_of X G gCA)
  have GRS : FnOk P w K mg base CX0 3 fRS _ _ (spReached K CA) := ok_reached FRS TCA ylen GAM BAM ⟨aAM, iAM, kAM⟩ GAB BAB ⟨aAB, iAB, kAB⟩
  have GLG : FnOk P w K mg base CX0 2 fLG _ _ (spLies K) := ok_lies FLG yany GHS BHS (PySem.W.mg_of X G aHS) kHS
  have GGS : FnOk P w K mg base CX0 3 fGS _ _ (spGreatestSets K) := ok_greatestSets FGS ysorted yset GLG BLG (PySem.W.mg_of X G aLG) kLG
  have GFI : FnOk P w K mg base CX0 1 fFI _ _ spFacts := ok_factsIn FFI yrange
  have GCB : FnOk P w K mg base CX0 2 fCB _ _ (spCanBe K) := ok_canBe FCB yany GHS BHS (PySem.W.mg_of X G aHS) kHS
  have GIL : FnOk P w K mg base CX0 3 fIL _ _ (spIsLeast K) := ok_isLeast FIL yall GCB BCB (PySem.W.mg_of X G aCB) kCB GFI BFI (PySem.W.mg_of X G aFI) kFI
  have GLS : FnOk P w K mg base CX0 4 fLS _ _ (spLeastSets K) := ok_leastSets FLS yrange GHS BHS (PySem.W.mg_of X G aHS) kHS GIL BIL (PySem.W.mg_of X G aIL) kIL
  have GAS : FnOk P w K mg base CX0 3 fAS _ _ (spAllSteps K CA) := ok_allSteps FAS TCA yrange GAM BAM ⟨aAM, iAM, kAM⟩ GAB BAB ⟨aAB, iAB, kAB⟩
  have GCC : FnOk P w K mg base CX0 1 fCC _ _ (spCheapest K) := ok_cheapest FCC
  have GCF : FnOk P w K mg base CX0 4 fCF _ _ (spCostsFrom K CA) := ok_costsFrom FCF GAS BAS (PySem.W.mg_of X G aAS) kAS GCC BCC (PySem.W.mg_of X G aCC) kCC
  have GCT : FnOk P w K mg base CX0 4 fCT _ _ (spCostsTo K CA) := ok_costsTo FCT yrange GHS BHS (PySem.W.mg_of X G aHS) kHS GAS BAS (PySem.W.mg_of X G aAS) kAS GCC BCC (PySem.W.mg_of X G aCC) kCC
  have GTH : FnOk P w K mg base CX0 3 fTH _ _ (spThrough CA) := ok_through FTH TCA GAM BAM ⟨aAM, iAM, kAM⟩ GAB BAB ⟨aAB, iAB, kAB⟩
  have GKC : FnOk P w K mg base CX0 3 fKC _ _ (spKeeps CA) := ok_keeps FKC TCA GAM BAM ⟨aAM, iAM, kAM⟩ GAB BAB ⟨aAB, iAB, kAB⟩
  have GFP : FnOk P w K mg base CX0 4 fFP _ _ (spFirstPlan K CA) := ok_firstPlan FFP TCA ymin yenumerate GKC BKC (PySem.W.mg_of X G aKC) kKC GAB BAB ⟨aAB, iAB, kAB⟩
  have GXT : FnOk P w K mg base CX0 2 fXT _ _ (spChange K) := ok_change FXT ysum ylen GFI BFI (PySem.W.mg_of X G aFI) kFI
  have GCW : FnOk P w K mg base CX0 5 fCW _ _ (spConditions CA) := ok_conditions FCW TCA yenumerate GFI BFI (PySem.W.mg_of X G aFI) kFI GAW BAW ⟨aAW, iAW, kAW⟩ GCT BCT (PySem.W.mg_of X G aCT) kCT
  have GIA : FnOk P w K mg base CX0 1 fIA _ _ (spIfAny K) := ok_ifAny FIA ylen ymin
  have GAF : FnOk P w K mg base CX0 1 fAF _ _ (spAre K) := ok_are FAF yall
  have GIC : FnOk P w K mg base CX0 1 fIC _ _ spIsCost := ok_isCost FIC yMOST_COST
  have GHI : FnOk P w K mg base CX0 1 fHI _ _ (spHInit CH CA) := ok_hInit FHI TCH
  have GHB : FnOk P w K mg base CX0 2 fHB _ _ (spBegins CH CA) := ok_begins FHB TCH yMOST_FACTS yNOT_AS_TOLD yDONE GAF BAF (PySem.W.mg_of X G aAF) kAF
  have GHF : FnOk P w K mg base CX0 2 fHF _ _ (spFrom CH CA) := ok_from FHF TCH yNOT_AS_TOLD yDONE GAF BAF (PySem.W.mg_of X G aAF) kAF
  have GHP : FnOk P w K mg base CX0 2 fHP _ _ (spPrices K CH CA) := ok_prices FHP TCH yNOT_AS_TOLD yDONE ylen yall ylist GIC BIC (PySem.W.mg_of X G aIC) kIC
  have GHA : FnOk P w K mg base CX0 3 fHA _ _ (spActM K CH CA) := ok_actM FHA TCH yNOT_AS_TOLD yACTS_ARE_FULL yMOST_ACTS yACT_NUMBERS ylen GAF BAF (PySem.W.mg_of X G aAF) kAF GIC BIC (PySem.W.mg_of X G aIC) kIC ⟨mkCA, aAI, iAI, kcCA⟩ GAI BAI (PySem.W.mg_of X G gCA)
  have GHG : FnOk P w K mg base CX0 4 fHG _ _ (spGreatest CH CA) := ok_greatest FHG TCH ylen GRS BRS (PySem.W.mg_of X G aRS) kRS GGS BGS (PySem.W.mg_of X G aGS) kGS
  have GHE : FnOk P w K mg base CX0 5 fHE _ _ (spLeast CH CA) := ok_least FHE TCH ylen GRS BRS (PySem.W.mg_of X G aRS) kRS GLS BLS (PySem.W.mg_of X G aLS) kLS
  have GHC : FnOk P w K mg base CX0 5 fHC _ _ (spPlanCosts CH CA) := ok_planCosts FHC TCH GCT BCT (PySem.W.mg_of X G aCT) kCT
  have GHO : FnOk P w K mg base CX0 6 fHO _ _ (spOtherwise CH CA) := ok_otherwise FHO TCH ymin yNO_PLAN GHC BHC ⟨aHC, iHC, kHC⟩ GXT BXT (PySem.W.mg_of X G aXT) kXT
  have GHN : FnOk P w K mg base CX0 6 fHN _ _ (spInway CH CA) := ok_inway FHN TCH ylen yTHERE_IS_A_PLAN GHC BHC ⟨aHC, iHC, kHC⟩ GCW BCW (PySem.W.mg_of X G aCW) kCW
  have GHW : FnOk P w K mg base CX0 6 fHW _ _ (spWhy CH CA) := ok_why FHW TCH ylen yNO_SUCH_ACT yDONE GHC BHC ⟨aHC, iHC, kHC⟩ GCF BCF (PySem.W.mg_of X G aCF) kCF GTH BTH (PySem.W.mg_of X G aTH) kTH GIA BIA (PySem.W.mg_of X G aIA) kIA
  have GHX : FnOk P w K mg base CX0 6 fHX _ _ (spPlan CH CA) := ok_plan FHX TCH yNO_PLAN GHC BHC ⟨aHC, iHC, kHC⟩ GFP BFP (PySem.W.mg_of X G aFP) kFP
  have GRI : FnOk P w K mg base CX0 1 fRI _ _ (spRInit CR) := ok_rInit FRI TCR
  have GRM : FnOk P w K mg base CX0 1 fRM _ _ (spMore K CR) := ok_more FRM TCR ylen
  have GRN : FnOk P w K mg base CX0 1 fRN _ _ (spNumber K CR) := ok_number FRN TCR
  have GRR : FnOk P w K mg base CX0 2 fRR _ _ (spRow K CR) := ok_row FRR TCR GRN BRN ⟨aRN, iRN, kRN⟩
  have GNA : FnOk P w K mg base CX0 7 fNA _ _ (spNext K CH CA CR KnownAll) := ok_next FNA TCH TCR yBEGINS yACT yFROM_STATE yPRICES yGREATEST yLEAST yOTHERWISE yINWAY yWHY yPLAN GRN BRN ⟨aRN, iRN, kRN⟩ GRR BRR ⟨aRR, iRR, kRR⟩ GHB BHB ⟨aHB, iHB, kHB⟩ GHA BHA ⟨aHA, iHA, kHA⟩ GHF BHF ⟨aHF, iHF, kHF⟩ GHP BHP ⟨aHP, iHP, kHP⟩ GHG BHG ⟨aHG, iHG, kHG⟩ GHE BHE ⟨aHE, iHE, kHE⟩ GHO BHO ⟨aHO, iHO, kHO⟩ GHN BHN ⟨aHN, iHN, kHN⟩ GHW BHW ⟨aHW, iHW, kHW⟩ GHX BHX ⟨aHX, iHX, kHX⟩
  exact ok_ans (by decide) FAN TCR ylen ⟨mkCH, aHI, iHI, kcCH⟩ GHI BHI (PySem.W.mg_of X G gCH) ⟨mkCR, aRI, iRI, kcCR⟩ GRI BRI (PySem.W.mg_of X G gCR) GRM BRM ⟨aRM, iRM, kRM⟩ GNA BNA (PySem.W.mg_of X G aNA) kNA
end Wn
open PySem PySem.W PyProof.Rows
set_option maxRecDepth 100000 in
set_option maxHeartbeats 8000000 in
theorem PySem.Challenge.cw_whynonedesk_s01_answers_holds : PySem.Challenge.rw_whynonedesk_s01_answers.Holds := by
  w_on; k_headS; (case hw => exact ⟨[.list [.int 4]], by decide +kernel, by decide +kernel⟩)
  k_fillS
  refine L2.walk_specK (r := PySem.Challenge.rw_whynonedesk_s01_answers) (k := 8) (CX := L2.CX0) (ps := ["calls"]) (sp := fun K => Wn.spAns K Wn.KnownAll) (by decide +kernel) rfl rfl ⟨rfl, by decide, by decide⟩ (fun w h Y => PySem.W.kIn_of Y) ?F ?S (fun _ _ _ _ z => z)
  case F =>
    intro w mg fa h Y KX G hmg
    refine' Wn.all_mk KX G hmg ?gCA ?gCH ?gCR ?aAI ?iAI ?lAI ?cAI ?kAI ?aAM ?iAM ?lAM ?cAM ?kAM ?aAB ?iAB ?lAB ?cAB ?kAB ?aAW ?iAW ?lAW ?cAW ?kAW ?aFI ?lFI ?cFI ?kFI ?aHS ?lHS ?cHS ?kHS ?aCB ?lCB ?cCB ?kCB ?aIL ?lIL ?cIL ?kIL ?aLS ?lLS ?cLS ?kLS ?aAS ?lAS ?cAS ?kAS ?aCC ?lCC ?cCC ?kCC ?aCF ?lCF ?cCF ?kCF ?aCT ?lCT ?cCT ?kCT ?aTH ?lTH ?cTH ?kTH ?aKC ?lKC ?cKC ?kKC ?aFP ?lFP ?cFP ?kFP ?aXT ?lXT ?cXT ?kXT ?aCW ?lCW ?cCW ?kCW ?aIA ?lIA ?cIA ?kIA ?aRS ?lRS ?cRS ?kRS ?aLG ?lLG ?cLG ?kLG ?aGS ?lGS ?cGS ?kGS ?aHI ?iHI ?lHI ?cHI ?kHI ?aHB ?iHB ?lHB ?cHB ?kHB ?aHA ?iHA ?lHA ?cHA ?kHA ?aHF ?iHF ?lHF ?cHF ?kHF ?aHP ?iHP ?lHP ?cHP ?kHP ?aHG ?iHG ?lHG ?cHG ?kHG ?aHE ?iHE ?lHE ?cHE ?kHE ?aHO ?iHO ?lHO ?cHO ?kHO ?aHN ?iHN ?lHN ?cHN ?kHN ?aHW ?iHW ?lHW ?cHW ?kHW ?aHX ?iHX ?lHX ?cHX ?kHX ?aHC ?iHC ?lHC ?cHC ?kHC ?aRI ?iRI ?lRI ?cRI ?kRI ?aRM ?iRM ?lRM ?cRM ?kRM ?aRN ?iRN ?lRN ?cRN ?kRN ?aRR ?iRR ?lRR ?cRR ?kRR ?aAF ?lAF ?cAF ?kAF ?aIC ?lIC ?cIC ?kIC ?aNA ?lNA ?cNA ?kNA ?aAN ?lAN ?cAN ?kAN ?pgCA ?hdCA ?poCA ?saCA ?mkCA ?kcCA ?nCA1 ?nCA2 ?nCA3 ?nCA4 ?nCA5 ?pgCH ?hdCH ?poCH ?saCH ?mkCH ?kcCH ?nCH1 ?nCH2 ?nCH3 ?nCH4 ?nCH5 ?pgCR ?hdCR ?poCR ?saCR ?mkCR ?kcCR ?nCR1 ?nCR2 ?zBEGINS ?zACT ?zFROM_STATE ?zPRICES ?zGREATEST ?zLEAST ?zOTHERWISE ?zINWAY ?zWHY ?zPLAN ?zNO_SUCH_ACT ?zTHERE_IS_A_PLAN ?zNO_PLAN ?zMOST_FACTS ?zMOST_ACTS ?zMOST_COST ?zACT_NUMBERS ?zDONE ?zNOT_AS_TOLD ?zACTS_ARE_FULL ?blen ?bany ?ball ?bsorted ?bset ?blist ?brange ?bmin ?benumerate ?bsum
    (case gCA => k_is)
    (case gCH => k_is)
    (case gCR => k_is)
    (case aAI => k_is)
    (case iAI => k_is)
    (case lAI => k_is)
    (case cAI => k_is)
    (case kAI => k_is)
    (case aAM => k_is)
    (case iAM => k_is)
    (case lAM => k_is)
    (case cAM => k_is)
    (case kAM => k_is)
    (case aAB => k_is)
    (case iAB => k_is)
    (case lAB => k_is)
    (case cAB => k_is)
    (case kAB => k_is)
    (case aAW => k_is)
    (case iAW => k_is)
    (case lAW => k_is)
    (case cAW => k_is)
    (case kAW => k_is)
    (case aFI => k_is)
    (case lFI => k_is)
    (case cFI => k_is)
    (case kFI => k_is)
    (case aHS => k_is)
    (case lHS => k_is)
    (case cHS => k_is)
    (case kHS => k_is)
    (case aCB => k_is)
    (case lCB => k_is)
    (case cCB => k_is)
    (case kCB => k_is)
    (case aIL => k_is)
    (case lIL => k_is)
    (case cIL => k_is)
    (case kIL => k_is)
    (case aLS => k_is)
    (case lLS => k_is)
    (case cLS => k_is)
    (case kLS => k_is)
    (case aAS => k_is)
    (case lAS => k_is)
    (case cAS => k_is)
    (case kAS => k_is)
    (case aCC => k_is)
    (case lCC => k_is)
    (case cCC => k_is)
    (case kCC => k_is)
    (case aCF => k_is)
    (case lCF => k_is)
    (case cCF => k_is)
    (case kCF => k_is)
    (case aCT => k_is)
    (case lCT => k_is)
    (case cCT => k_is)
    (case kCT => k_is)
    (case aTH => k_is)
    (case lTH => k_is)
    (case cTH => k_is)
    (case kTH => k_is)
    (case aKC => k_is)
    (case lKC => k_is)
    (case cKC => k_is)
    (case kKC => k_is)
    (case aFP => k_is)
    (case lFP => k_is)
    (case cFP => k_is)
    (case kFP => k_is)
    (case aXT => k_is)
    (case lXT => k_is)
    (case cXT => k_is)
    (case kXT => k_is)
    (case aCW => k_is)
    (case lCW => k_is)
    (case cCW => k_is)
    (case kCW => k_is)
    (case aIA => k_is)
    (case lIA => k_is)
    (case cIA => k_is)
    (case kIA => k_is)
    (case aRS => k_is)
    (case lRS => k_is)
    (case cRS => k_is)
    (case kRS => k_is)
    (case aLG => k_is)
    (case lLG => k_is)
    (case cLG => k_is)
    (case kLG => k_is)
    (case aGS => k_is)
    (case lGS => k_is)
    (case cGS => k_is)
    (case kGS => k_is)
    (case aHI => k_is)
    (case iHI => k_is)
    (case lHI => k_is)
    (case cHI => k_is)
    (case kHI => k_is)
    (case aHB => k_is)
    (case iHB => k_is)
    (case lHB => k_is)
    (case cHB => k_is)
    (case kHB => k_is)
    (case aHA => k_is)
    (case iHA => k_is)
    (case lHA => k_is)
    (case cHA => k_is)
    (case kHA => k_is)
    (case aHF => k_is)
    (case iHF => k_is)
    (case lHF => k_is)
    (case cHF => k_is)
    (case kHF => k_is)
    (case aHP => k_is)
    (case iHP => k_is)
    (case lHP => k_is)
    (case cHP => k_is)
    (case kHP => k_is)
    (case aHG => k_is)
    (case iHG => k_is)
    (case lHG => k_is)
    (case cHG => k_is)
    (case kHG => k_is)
    (case aHE => k_is)
    (case iHE => k_is)
    (case lHE => k_is)
    (case cHE => k_is)
    (case kHE => k_is)
    (case aHO => k_is)
    (case iHO => k_is)
    (case lHO => k_is)
    (case cHO => k_is)
    (case kHO => k_is)
    (case aHN => k_is)
    (case iHN => k_is)
    (case lHN => k_is)
    (case cHN => k_is)
    (case kHN => k_is)
    (case aHW => k_is)
    (case iHW => k_is)
    (case lHW => k_is)
    (case cHW => k_is)
    (case kHW => k_is)
    (case aHX => k_is)
    (case iHX => k_is)
    (case lHX => k_is)
    (case cHX => k_is)
    (case kHX => k_is)
    (case aHC => k_is)
    (case iHC => k_is)
    (case lHC => k_is)
    (case cHC => k_is)
    (case kHC => k_is)
    (case aRI => k_is)
    (case iRI => k_is)
    (case lRI => k_is)
    (case cRI => k_is)
    (case kRI => k_is)
    (case aRM => k_is)
    (case iRM => k_is)
    (case lRM => k_is)
    (case cRM => k_is)
    (case kRM => k_is)
    (case aRN => k_is)
    (case iRN => k_is)
    (case lRN => k_is)
    (case cRN => k_is)
    (case kRN => k_is)
    (case aRR => k_is)
    (case iRR => k_is)
    (case lRR => k_is)
    (case cRR => k_is)
    (case kRR => k_is)
    (case aAF => k_is)
    (case lAF => k_is)
    (case cAF => k_is)
    (case kAF => k_is)
    (case aIC => k_is)
    (case lIC => k_is)
    (case cIC => k_is)
    (case kIC => k_is)
    (case aNA => k_is)
    (case lNA => k_is)
    (case cNA => k_is)
    (case kNA => k_is)
    (case aAN => k_is)
    (case lAN => k_is)
    (case cAN => k_is)
    (case kAN => k_is)
    (case pgCA => k_is)
    (case hdCA => k_is)
    (case poCA => k_is)
    (case saCA => k_is)
    (case mkCA => k_is)
    (case kcCA => k_is)
    (case nCA1 => k_is)
    (case nCA2 => k_is)
    (case nCA3 => k_is)
    (case nCA4 => k_is)
    (case nCA5 => k_is)
    (case pgCH => k_is)
    (case hdCH => k_is)
    (case poCH => k_is)
    (case saCH => k_is)
    (case mkCH => k_is)
    (case kcCH => k_is)
    (case nCH1 => k_is)
    (case nCH2 => k_is)
    (case nCH3 => k_is)
    (case nCH4 => k_is)
    (case nCH5 => k_is)
    (case pgCR => k_is)
    (case hdCR => k_is)
    (case poCR => k_is)
    (case saCR => k_is)
    (case mkCR => k_is)
    (case kcCR => k_is)
    (case nCR1 => k_is)
    (case nCR2 => k_is)
    (case zBEGINS => k_is)
    (case zACT => k_is)
    (case zFROM_STATE => k_is)
    (case zPRICES => k_is)
    (case zGREATEST => k_is)
    (case zLEAST => k_is)
    (case zOTHERWISE => k_is)
    (case zINWAY => k_is)
    (case zWHY => k_is)
    (case zPLAN => k_is)
    (case zNO_SUCH_ACT => k_is)
    (case zTHERE_IS_A_PLAN => k_is)
    (case zNO_PLAN => k_is)
    (case zMOST_FACTS => k_is)
    (case zMOST_ACTS => k_is)
    (case zMOST_COST => k_is)
    (case zACT_NUMBERS => k_is)
    (case zDONE => k_is)
    (case zNOT_AS_TOLD => k_is)
    (case zACTS_ARE_FULL => k_is)
    (case blen => k_is)
    (case bany => k_is)
    (case ball => k_is)
    (case bsorted => k_is)
    (case bset => k_is)
    (case blist => k_is)
    (case brange => k_is)
    (case bmin => k_is)
    (case benumerate => k_is)
    (case bsum => k_is)
  case S =>
    intro K H xs a hO hwi hask hx
    cases hx with
    | cons h1 h2 =>
      cases h2
      cases h1 with
      | lst hs ha =>
        have e := L2.ints_dw a.1 _ ha
        subst e
        obtain ⟨cs, q1, q2, q3, q4⟩ := Wn.request (l := a.1) hask
        have q5 : ∀ c ∈ cs, Wn.KnownAll c := fun _ _ => trivial
        exact ⟨_, a.1, cs, rfl, hs, q1, fun c hc => ⟨q2 c hc, q5 c hc⟩, by rw [← q3]; exact q4, fun H' p hp => .lst (L2.SqL.of (by rw [hp, ← q3]; rfl)) (L2.dw_ints _)⟩
