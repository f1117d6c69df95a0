import PyProof.Rows.All
import Wide.All
import OpenK.AllK
import Wide.FinOn
import Open.SpecLaws
import KE.OsGo
import HandS.ForSpec
import HandS.Comp
import HandS.CallLocal
import HandS.Codes
import HandS.Iter
import HandS.Flow
import HandS.Dict
import HandS.WordsDict
import HandS.Conv
import HandS.Walk
import KE.DataMinMax
import KE.DataFind
import KE.DatumOrd
import HandS.TupAny
import HandS.ListItems
import PySem.Challenge.RW_mendedplans_s01_answers
set_option Elab.async false
set_option linter.unusedVariables false
set_option maxRecDepth 100000
set_option maxHeartbeats 4000000
/-! The order of ways: strict, total, kept by going on alike. -/
namespace Md
open Pn12

theorem less_irrefl : ∀ l : List Nat, less l l = false
  | [] => rfl
  | a :: r => by
    show (decide (a < a) || (a == a && less r r)) = false
    rw [less_irrefl r]
    simp

theorem less_nil (l : List Nat) : less l [] = false := by
  cases l <;> rfl

theorem less_cons (a b : Nat) (r s : List Nat) : less (a :: r) (b :: s) = (decide (a < b) || (a == b && less r s)) := rfl

theorem less_cons_iff {a b : Nat} {r s : List Nat} : less (a :: r) (b :: s) = true ↔ a < b ∨ (a = b ∧ less r s = true) := by
  rw [less_cons]
  simp

theorem less_trans : ∀ {l m n : List Nat}, less l m = true → less m n = true → less l n = true
  | l, m, [], _, h => by rw [less_nil] at h; cases h
  | l, [], _ :: _, h, _ => by rw [less_nil] at h; cases h
  | [], _ :: _, _ :: _, _, _ => rfl
  | a :: l, b :: m, c :: n, h1, h2 => by
    rw [less_cons_iff] at h1 h2 ⊢
    rcases h1 with h1 | ⟨rfl, h1⟩
    · rcases h2 with h2 | ⟨rfl, h2⟩
      · exact .inl (by omega)
      · exact .inl h1
    · rcases h2 with h2 | ⟨rfl, h2⟩
      · exact .inl h2
      · exact .inr ⟨rfl, less_trans h1 h2⟩

theorem less_total : ∀ (l m : List Nat), less l m = true ∨ l = m ∨ less m l = true
  | [], [] => .inr (.inl rfl)
  | [], _ :: _ => .inl rfl
  | _ :: _, [] => .inr (.inr rfl)
  | a :: l, b :: m => by
    rw [less_cons_iff, less_cons_iff]
    rcases Nat.lt_trichotomy a b with h | h | h
    · exact .inl (.inl h)
    · subst h
      rcases less_total l m with h | h | h
      · exact .inl (.inr ⟨rfl, h⟩)
      · exact .inr (.inl (by rw [h]))
      · exact .inr (.inr (.inr ⟨rfl, h⟩))
    · exact .inr (.inr (.inl h))

theorem less_asymm {l m : List Nat} (h : less l m = true) : less m l = false := by
  cases e : less m l
  · rfl
  · have := less_trans h e
    rw [less_irrefl] at this
    cases this

theorem less_append : ∀ {l m : List Nat} (r : List Nat), l.length = m.length → less (l ++ r) (m ++ r) = less l m
  | [], [], r, _ => by
    rw [List.nil_append, less_irrefl]
    rfl
  | a :: l, b :: m, r, h => by
    have h' : l.length = m.length := by simpa using h
    rw [List.cons_append, List.cons_append, less_cons, less_cons, less_append r h']
  | [], _ :: _, _, h => by simp at h
  | _ :: _, [], _, h => by simp at h

theorem better_iff {a b : Way} : a.better b = true ↔ a.d < b.d ∨ (a.d = b.d ∧ (a.c < b.c ∨ (a.c = b.c ∧ (a.l.length < b.l.length ∨ (a.l.length = b.l.length ∧ less a.l b.l = true))))) := by
  unfold Way.better
  simp

theorem better_irrefl (a : Way) : a.better a = false := by
  cases e : a.better a
  · rfl
  · rw [better_iff, less_irrefl] at e
    simp at e

theorem better_trans {a b c : Way} (h1 : a.better b = true) (h2 : b.better c = true) : a.better c = true := by
  rw [better_iff] at h1 h2 ⊢
  rcases h1 with h1 | ⟨e1, h1 | ⟨e2, h1 | ⟨e3, h1⟩⟩⟩ <;> rcases h2 with h2 | ⟨f1, h2 | ⟨f2, h2 | ⟨f3, h2⟩⟩⟩
  all_goals first
    | exact .inl (by omega)
    | exact .inr ⟨by omega, .inl (by omega)⟩
    | exact .inr ⟨by omega, .inr ⟨by omega, .inl (by omega)⟩⟩
    | exact .inr ⟨by omega, .inr ⟨by omega, .inr ⟨by omega, less_trans h1 h2⟩⟩⟩

theorem better_total (a b : Way) : a.better b = true ∨ a = b ∨ b.better a = true := by
  rw [better_iff, better_iff]
  rcases Nat.lt_trichotomy a.d b.d with h | h | h
  · exact .inl (.inl h)
  · rcases Nat.lt_trichotomy a.c b.c with h2 | h2 | h2
    · exact .inl (.inr ⟨h, .inl h2⟩)
    · rcases Nat.lt_trichotomy a.l.length b.l.length with h3 | h3 | h3
      · exact .inl (.inr ⟨h, .inr ⟨h2, .inl h3⟩⟩)
      · rcases less_total a.l b.l with h4 | h4 | h4
        · exact .inl (.inr ⟨h, .inr ⟨h2, .inr ⟨h3, h4⟩⟩⟩)
        · refine .inr (.inl ?_)
          cases a
          cases b
          simp_all
        · exact .inr (.inr (.inr ⟨h.symm, .inr ⟨h2.symm, .inr ⟨h3.symm, h4⟩⟩⟩))
      · exact .inr (.inr (.inr ⟨h.symm, .inr ⟨h2.symm, .inl h3⟩⟩))
    · exact .inr (.inr (.inr ⟨h.symm, .inl h2⟩))
  · exact .inr (.inr (.inl h))

theorem better_asymm {a b : Way} (h : a.better b = true) : b.better a = false := by
  cases e : b.better a
  · rfl
  · have := better_trans h e
    rw [better_irrefl] at this
    cases this

/-- no worse -/
def Le (a b : Way) : Prop := b.better a = false

theorem Le.iff {a b : Way} : Le a b ↔ a.better b = true ∨ a = b := by
  unfold Le
  constructor
  · intro h
    rcases better_total a b with k | k | k
    · exact .inl k
    · exact .inr k
    · rw [k] at h
      cases h
  · rintro (h | rfl)
    · exact better_asymm h
    · exact better_irrefl a

theorem Le.refl (a : Way) : Le a a := better_irrefl a

theorem Le.trans {a b c : Way} (h1 : Le a b) (h2 : Le b c) : Le a c := by
  rw [Le.iff] at h1 h2 ⊢
  rcases h1 with h1 | rfl
  · rcases h2 with h2 | rfl
    · exact .inl (better_trans h1 h2)
    · exact .inl h1
  · exact h2

theorem Le.antisymm {a b : Way} (h1 : Le a b) (h2 : Le b a) : a = b := by
  rw [Le.iff] at h1
  rcases h1 with h1 | h1
  · unfold Le at h2
    rw [h1] at h2
    cases h2
  · exact h1

theorem Le.of_better {a b : Way} (h : a.better b = true) : Le a b := better_asymm h
theorem Le.of_not {a b : Way} (h : ¬ b.better a = true) : Le a b := by
  unfold Le
  cases e : b.better a
  · rfl
  · exact (h e).elim

theorem Le.d {a b : Way} (h : Le a b) : a.d ≤ b.d := by
  rw [Le.iff] at h
  rcases h with h | rfl
  · rw [better_iff] at h
    omega
  · exact Nat.le_refl _

/-- a way gone on -/
def ext (w : Way) (d c : Nat) (l : List Nat) : Way := ⟨w.d + d, w.c + c, w.l ++ l⟩

theorem Le.ext {a b : Way} (h : Le a b) (d c : Nat) (l : List Nat) : Le (ext a d c l) (ext b d c l) := by
  rw [Le.iff] at h ⊢
  rcases h with h | rfl
  · refine .inl ?_
    rw [better_iff] at h ⊢
    show a.d + d < b.d + d ∨ (a.d + d = b.d + d ∧ (a.c + c < b.c + c ∨ (a.c + c = b.c + c ∧ ((a.l ++ l).length < (b.l ++ l).length ∨ ((a.l ++ l).length = (b.l ++ l).length ∧ less (a.l ++ l) (b.l ++ l) = true)))))
    rw [List.length_append, List.length_append]
    rcases h with h | ⟨e1, h | ⟨e2, h | ⟨e3, h⟩⟩⟩
    · exact .inl (by omega)
    · exact .inr ⟨by omega, .inl (by omega)⟩
    · exact .inr ⟨by omega, .inr ⟨by omega, .inl (by omega)⟩⟩
    · exact .inr ⟨by omega, .inr ⟨by omega, .inr ⟨by omega, by rw [less_append l e3]; exact h⟩⟩⟩
  · exact .inr rfl

/-- different numbers below a bound are no more than the bound -/
theorem nodup_le : ∀ (n : Nat) (l : List Nat), l.Nodup → (∀ x ∈ l, x < n) → l.length ≤ n
  | 0, [], _, _ => Nat.le_refl _
  | 0, a :: _, _, h => absurd (h a (List.mem_cons_self ..)) (Nat.not_lt_zero _)
  | n + 1, l, hn, h => by
    have h2 := nodup_le n (l.erase n) (hn.erase n) fun x hx => by
      have h3 := (List.Nodup.mem_erase_iff hn).mp hx
      have := h x h3.2
      omega
    have h4 := List.length_erase (a := n) (l := l)
    split at h4 <;> omega
end Md

/-! The specification's search for the nearest plan finds the best of all ways. -/
namespace Md
open Pn (Act Task)
open Pn12

structure WF (t : Task) : Prop where
  goal : t.goal < 2 ^ t.facts
  acts : ∀ a ∈ t.acts, a.right t.facts = true

theorem act_mem {t : Task} {k : Nat} (h : k < t.acts.length) : t.act k ∈ t.acts := by
  unfold Task.act
  rw [List.getD_eq_getElem?_getD, List.getElem?_eq_getElem h]
  exact List.getElem_mem h

theorem right_iff {a : Act} {n : Nat} : a.right n = true ↔ a.pre < 2 ^ n ∧ a.no < 2 ^ n ∧ a.add < 2 ^ n ∧ a.del < 2 ^ n ∧ 1 ≤ a.cost ∧ a.cost ≤ 1000 := by
  unfold Act.right Pn.COST
  simp only [Bool.and_eq_true, decide_eq_true_eq]

theorem WF.act {t : Task} (W : WF t) {k : Nat} (h : k < t.acts.length) : (t.act k).pre < 2 ^ t.facts ∧ (t.act k).no < 2 ^ t.facts ∧ (t.act k).add < 2 ^ t.facts ∧ (t.act k).del < 2 ^ t.facts ∧ 1 ≤ (t.act k).cost ∧ (t.act k).cost ≤ 1000 :=
  right_iff.mp (W.acts _ (act_mem h))

theorem then_lt (a : Act) {n s : Nat} (hs : s < 2 ^ n) (ha : a.add < 2 ^ n) : a.then_ s < 2 ^ n := by
  show (s - s.land a.del) ||| a.add < 2 ^ n
  exact Nat.or_lt_two_pow (by omega) ha

theorem can_iff {t : Task} {s k : Nat} : t.can s k = true ↔ k < t.acts.length ∧ (t.act k).may s = true := by
  unfold Task.can
  simp

theorem WF.then_lt {t : Task} (W : WF t) {s k : Nat} (hs : s < 2 ^ t.facts) (h : t.can s k = true) : (t.act k).then_ s < 2 ^ t.facts :=
  Md.then_lt _ hs (W.act (can_iff.mp h).1).2.2.1

/-- what one move leads to, and what it adds -/
inductive Move (t : Task) (old : List Nat) (i s : Nat) : Nat → Nat → Nat → Nat → List Nat → Prop
  | keep {k : Nat} (h : old[i]? = some k) (c : t.can s k = true) : Move t old i s (i + 1) ((t.act k).then_ s) 0 (t.act k).cost [k]
  | left {k : Nat} (h : old[i]? = some k) : Move t old i s (i + 1) s 1 0 []
  | put {k : Nat} (c : t.can s k = true) : Move t old i s i ((t.act k).then_ s) 1 (t.act k).cost [k]

theorem mem_moves {t : Task} {old : List Nat} {i s : Nat} {w : Way} {y : Nat × Nat × Way} : y ∈ moves t old i s w ↔ ∃ d c l, Move t old i s y.1 y.2.1 d c l ∧ y.2.2 = ext w d c l := by
  obtain ⟨j, u, v⟩ := y
  unfold moves
  rw [List.mem_append]
  constructor
  · rintro (h | h)
    · split at h
      · next k hk =>
        rw [List.mem_append] at h
        rcases h with h | h
        · split at h
          · next hc =>
            rw [List.mem_singleton] at h
            obtain ⟨rfl, rfl, rfl⟩ : j = i + 1 ∧ u = (t.act k).then_ s ∧ v = ⟨w.d, w.c + (t.act k).cost, w.l ++ [k]⟩ := by simpa using h
            exact ⟨0, _, _, .keep hk hc, rfl⟩
          · cases h
        · rw [List.mem_singleton] at h
          obtain ⟨rfl, rfl, rfl⟩ : j = i + 1 ∧ u = s ∧ v = ⟨w.d + 1, w.c, w.l⟩ := by simpa using h
          exact ⟨1, 0, [], .left hk, by simp [ext]⟩
      · cases h
    · rw [List.mem_filterMap] at h
      obtain ⟨k, _, h⟩ := h
      split at h
      · next hc =>
        obtain ⟨rfl, rfl, rfl⟩ : i = j ∧ (t.act k).then_ s = u ∧ ⟨w.d + 1, w.c + (t.act k).cost, w.l ++ [k]⟩ = v := by simpa using h
        exact ⟨1, _, _, .put hc, rfl⟩
      · cases h
  · rintro ⟨d, c, l, m, e⟩
    dsimp only at m e
    subst e
    cases m with
    | keep h c =>
      refine .inl ?_
      rw [h]
      dsimp only
      rw [if_pos c]
      simp [ext]
    | left h =>
      refine .inl ?_
      rw [h]
      dsimp only
      rw [List.mem_append]
      exact .inr (by simp [ext])
    | put c =>
      refine .inr ?_
      rw [List.mem_filterMap]
      exact ⟨_, List.mem_range.mpr (can_iff.mp c).1, by rw [if_pos c]; rfl⟩

theorem Move.row {t : Task} {old : List Nat} {i s j u d c : Nat} {l : List Nat} (m : Move t old i s j u d c l) (hi : i ≤ old.length) : j ≤ old.length ∧ (i < j ∨ (i = j ∧ d = 1)) := by
  cases m with
  | keep h _ =>
    have := (List.getElem?_eq_some_iff.mp h).1
    omega
  | left h =>
    have := (List.getElem?_eq_some_iff.mp h).1
    omega
  | put _ => omega

theorem Move.state {t : Task} (W : WF t) {old : List Nat} {i s j u d c : Nat} {l : List Nat} (m : Move t old i s j u d c l) (hs : s < 2 ^ t.facts) : u < 2 ^ t.facts := by
  cases m with
  | keep _ c => exact W.then_lt hs c
  | left _ => exact hs
  | put c => exact W.then_lt hs c

/-- what can be come to -/
inductive Walk (t : Task) (old : List Nat) (s0 : Nat) : Nat → Nat → Way → Prop
  | start : Walk t old s0 0 s0 ⟨0, 0, []⟩
  | step {i s j u d c : Nat} {l : List Nat} {w : Way} : Walk t old s0 i s w → Move t old i s j u d c l → Walk t old s0 j u (ext w d c l)

theorem Walk.inside {t : Task} (W : WF t) {old : List Nat} {s0 i s : Nat} {w : Way} (h0 : s0 < 2 ^ t.facts) (h : Walk t old s0 i s w) : i ≤ old.length ∧ s < 2 ^ t.facts := by
  induction h with
  | start => exact ⟨Nat.zero_le _, h0⟩
  | step _ m ih => exact ⟨(m.row ih.1).1, m.state W ih.2⟩

theorem code_div {t : Task} {i s : Nat} (hs : s < 2 ^ t.facts) : code t i s / 2 ^ t.facts = i := by
  unfold code
  rw [Nat.add_comm, Nat.add_mul_div_right _ _ (Nat.two_pow_pos _), Nat.div_eq_of_lt hs, Nat.zero_add]

theorem code_mod {t : Task} {i s : Nat} (hs : s < 2 ^ t.facts) : code t i s % 2 ^ t.facts = s := by
  unfold code
  rw [Nat.add_comm, Nat.add_mul_mod_self_right, Nat.mod_eq_of_lt hs]

theorem code_lt {t : Task} {i s n : Nat} (hi : i ≤ n) (hs : s < 2 ^ t.facts) : code t i s < (n + 1) * 2 ^ t.facts := by
  unfold code
  have : i * 2 ^ t.facts ≤ n * 2 ^ t.facts := Nat.mul_le_mul_right _ hi
  rw [Nat.add_mul]
  omega

theorem code_self {t : Task} {n : Nat} : code t (n / 2 ^ t.facts) (n % 2 ^ t.facts) = n := by
  unfold code
  rw [Nat.mul_comm]
  exact Nat.div_add_mod n _

theorem at_set (d : Array Known) (m n : Nat) (v : Known) : at_ (d.setIfInBounds m v) n = if m = n ∧ m < d.size then v else at_ d n := by
  unfold at_
  rw [Array.getD_eq_getD_getElem?, Array.getD_eq_getD_getElem?, Array.getElem?_setIfInBounds]
  by_cases h : m = n
  · subst h
    by_cases h2 : m < d.size
    · simp [h2]
    · simp [h2]
  · simp [h]

theorem at_lt {d : Array Known} {n : Nat} {w : Way} (h : at_ d n = some w) : n < d.size := by
  unfold at_ at h
  rw [Array.getD_eq_getD_getElem?] at h
  rcases Nat.lt_or_ge n d.size with k | k
  · exact k
  · rw [Array.getElem?_eq_none k] at h
    cases h

/-- one found way, taken or not -/
def upd1 (t : Task) (x : Array Known × List Nat) (y : Nat × Nat × Way) : Array Known × List Nat := let m := code t y.1 y.2.1
    match at_ x.1 m with
    | none => (x.1.setIfInBounds m (some y.2.2), x.2 ++ [m])
    | some o => if y.2.2.better o = true then (x.1.setIfInBounds m (some y.2.2), if x.2.contains m = true then x.2 else x.2 ++ [m]) else x

def offers (t : Task) (old : List Nat) (d : Array Known) (new : List Nat) : List (Nat × Nat × Way) := new.flatMap fun n => match at_ d n with
  | some w => moves t old (n / 2 ^ t.facts) (n % 2 ^ t.facts) w
  | none => []

theorem round_eq (t : Task) (old : List Nat) (d : Array Known) (new : List Nat) : round t old d new = (offers t old d new).foldl (upd1 t) (d, []) := rfl

theorem upd1_cases (t : Task) (x : Array Known × List Nat) (y : Nat × Nat × Way) :
    (∃ o, at_ x.1 (code t y.1 y.2.1) = some o ∧ Le o y.2.2 ∧ upd1 t x y = x) ∨
    (∃ new, (∀ o, at_ x.1 (code t y.1 y.2.1) = some o → y.2.2.better o = true) ∧ upd1 t x y = (x.1.setIfInBounds (code t y.1 y.2.1) (some y.2.2), new) ∧ code t y.1 y.2.1 ∈ new ∧ (∀ n ∈ x.2, n ∈ new) ∧ ∀ n ∈ new, n ∈ x.2 ∨ n = code t y.1 y.2.1) := by
  unfold upd1
  dsimp only
  cases e : at_ x.1 (code t y.1 y.2.1) with
  | none =>
    refine .inr ⟨x.2 ++ [code t y.1 y.2.1], fun o h => (by cases h), rfl, by simp, fun n h => by simp [h], fun n h => by simpa using h⟩
  | some o =>
    dsimp only
    by_cases h : y.2.2.better o = true
    · rw [if_pos h]
      refine .inr ⟨_, fun o' h' => by cases h'; exact h, rfl, ?_, ?_, ?_⟩
      · split
        · next hc => simpa using hc
        · simp
      · intro n hn
        split
        · exact hn
        · simp [hn]
      · intro n hn
        split at hn
        · exact .inl hn
        · simpa using hn
    · rw [if_neg h]
      exact .inl ⟨o, rfl, Le.of_not h, rfl⟩

/-- there is a chain of so many unlike places behind a new entry -/
def Hist (t : Task) (N r : Nat) (d : Array Known) (n : Nat) : Prop := ∃ (w : Way) (hist : List Nat), at_ d n = some w ∧ hist.length = r ∧ hist.Nodup ∧
  ∀ v ∈ hist, v < N ∧ ∃ o, at_ d v = some o ∧ (v / 2 ^ t.facts < n / 2 ^ t.facts ∨ (v / 2 ^ t.facts = n / 2 ^ t.facts ∧ o.d < w.d))

structure FInv (t : Task) (old : List Nat) (s0 N r : Nat) (d0 : Array Known) (x : Array Known × List Nat) (seen : Nat × Nat × Way → Prop) : Prop where
  size : x.1.size = N
  sound : ∀ n w, at_ x.1 n = some w → Walk t old s0 (n / 2 ^ t.facts) (n % 2 ^ t.facts) w
  better : ∀ n o, at_ d0 n = some o → ∃ o', at_ x.1 n = some o' ∧ Le o' o
  same : ∀ n, n ∉ x.2 → at_ x.1 n = at_ d0 n
  seen : ∀ y, seen y → ∃ o, at_ x.1 (code t y.1 y.2.1) = some o ∧ Le o y.2.2
  hist : ∀ n ∈ x.2, Hist t N (r + 1) x.1 n

/-- an entry changed for a better one: what was there stays as good -/
theorem better_set {d : Array Known} {m : Nat} {w : Way} (hm : m < d.size) (hb : ∀ o, at_ d m = some o → w.better o = true) (n : Nat) (o : Way) (h : at_ d n = some o) : ∃ o', at_ (d.setIfInBounds m (some w)) n = some o' ∧ Le o' o := by
  rw [at_set]
  by_cases e : m = n
  · subst e
    rw [if_pos ⟨rfl, hm⟩]
    exact ⟨w, rfl, Le.of_better (hb o h)⟩
  · rw [if_neg fun z => e z.1]
    exact ⟨o, h, Le.refl o⟩

theorem Hist.mono {t : Task} {N r : Nat} {d d' : Array Known} {n : Nat} (hb : ∀ n o, at_ d n = some o → ∃ o', at_ d' n = some o' ∧ Le o' o) (he : at_ d' n = at_ d n) (h : Hist t N r d n) : Hist t N r d' n := by
  obtain ⟨w, hist, h1, h2, h3, h4⟩ := h
  refine ⟨w, hist, he.trans h1, h2, h3, fun v hv => ?_⟩
  obtain ⟨h5, o, h6, h7⟩ := h4 v hv
  obtain ⟨o', h8, h9⟩ := hb v o h6
  refine ⟨h5, o', h8, ?_⟩
  rcases h7 with h7 | ⟨h7, h10⟩
  · exact .inl h7
  · exact .inr ⟨h7, Nat.lt_of_le_of_lt h9.d h10⟩

theorem FInv.step {t : Task} (W : WF t) {old : List Nat} {s0 r : Nat} (h0 : s0 < 2 ^ t.facts) {d0 : Array Known} {x : Array Known × List Nat} {seen : Nat × Nat × Way → Prop}
    (I : FInv t old s0 ((old.length + 1) * 2 ^ t.facts) r d0 x seen) {y : Nat × Nat × Way} {n0 : Nat} {w0 : Way} (hn0 : at_ d0 n0 = some w0) (hw0 : Walk t old s0 (n0 / 2 ^ t.facts) (n0 % 2 ^ t.facts) w0)
    (hH : Hist t ((old.length + 1) * 2 ^ t.facts) r d0 n0) (hy : y ∈ moves t old (n0 / 2 ^ t.facts) (n0 % 2 ^ t.facts) w0) :
    FInv t old s0 ((old.length + 1) * 2 ^ t.facts) r d0 (upd1 t x y) (fun z => seen z ∨ z = y) := by
  obtain ⟨d, c, l, m, ey⟩ := mem_moves.mp hy
  have ins := hw0.inside W h0
  have hw : Walk t old s0 y.1 y.2.1 y.2.2 := by
    rw [ey]
    exact .step hw0 m
  have iny := hw.inside W h0
  have hlt : code t y.1 y.2.1 < (old.length + 1) * 2 ^ t.facts := code_lt iny.1 iny.2
  rcases upd1_cases t x y with ⟨o, h1, h2, h3⟩ | ⟨new, hb, h3, h4, h5, h6⟩
  · rw [h3]
    refine ⟨I.size, I.sound, I.better, I.same, fun z hz => ?_, I.hist⟩
    rcases hz with hz | rfl
    · exact I.seen z hz
    · exact ⟨o, h1, h2⟩
  · rw [h3]
    have hms : code t y.1 y.2.1 < x.1.size := by rw [I.size]; exact hlt
    have hB := better_set hms hb
    have hself : at_ (x.1.setIfInBounds (code t y.1 y.2.1) (some y.2.2)) (code t y.1 y.2.1) = some y.2.2 := by
      rw [at_set, if_pos ⟨rfl, hms⟩]
    refine ⟨?_, fun n w h => ?_, fun n o h => ?_, fun n h => ?_, fun z hz => ?_, fun n h => ?_⟩
    · dsimp only
      rw [Array.size_setIfInBounds]
      exact I.size
    · dsimp only at h
      rw [at_set] at h
      split at h
      · next e =>
        cases h
        rw [← e.1, code_div iny.2, code_mod iny.2]
        exact hw
      · exact I.sound n w h
    · obtain ⟨o', k1, k2⟩ := I.better n o h
      obtain ⟨o'', k3, k4⟩ := hB n o' k1
      exact ⟨o'', k3, k4.trans k2⟩
    · dsimp only at h ⊢
      rw [at_set, if_neg fun z => h (by rw [← z.1]; exact h4)]
      exact I.same n fun z => h (h5 n z)
    · rcases hz with hz | rfl
      · obtain ⟨o, k1, k2⟩ := I.seen z hz
        obtain ⟨o', k3, k4⟩ := hB _ o k1
        exact ⟨o', k3, k4.trans k2⟩
      · exact ⟨z.2.2, hself, Le.refl _⟩
    · dsimp only at h ⊢
      by_cases e : n = code t y.1 y.2.1
      · subst e
        obtain ⟨w, hist, k1, k2, k3, k4⟩ := hH
        rw [hn0] at k1
        cases k1
        have hbb : ∀ n o, at_ d0 n = some o → ∃ o', at_ (x.1.setIfInBounds (code t y.1 y.2.1) (some y.2.2)) n = some o' ∧ Le o' o := by
          intro n o h
          obtain ⟨o', k1, k2⟩ := I.better n o h
          obtain ⟨o'', k3, k4⟩ := hB n o' k1
          exact ⟨o'', k3, k4.trans k2⟩
        have hrow := (m.row ins.1).2
        have hd : y.2.2.d = w0.d + d := by rw [ey]; rfl
        have hno : n0 ∉ hist := by
          intro z
          obtain ⟨_, o, k5, k6⟩ := k4 n0 z
          rw [hn0] at k5
          cases k5
          omega
        refine ⟨y.2.2, n0 :: hist, hself, by rw [List.length_cons, k2], List.nodup_cons.mpr ⟨hno, k3⟩, fun v hv => ?_⟩
        rw [code_div iny.2]
        rcases List.mem_cons.mp hv with rfl | hv
        · obtain ⟨o', k5, k6⟩ := hbb v w0 hn0
          have hl : v < (old.length + 1) * 2 ^ t.facts := by
            have := code_lt (t := t) ins.1 ins.2
            rw [code_self] at this
            exact this
          refine ⟨hl, o', k5, ?_⟩
          have := k6.d
          rcases hrow with h | ⟨h, h'⟩
          · exact .inl h
          · exact .inr ⟨h, by omega⟩
        · obtain ⟨k5, o, k6, k7⟩ := k4 v hv
          obtain ⟨o', k8, k9⟩ := hbb v o k6
          refine ⟨k5, o', k8, ?_⟩
          have := k9.d
          omega
      · have hin : n ∈ x.2 := by
          rcases h6 n h with k | k
          · exact k
          · exact (e k).elim
        refine (I.hist n hin).mono hB ?_
        rw [at_set, if_neg fun z => e z.1.symm]

theorem FInv.fold {t : Task} (W : WF t) {old : List Nat} {s0 r : Nat} (h0 : s0 < 2 ^ t.facts) {d0 : Array Known} :
    ∀ (ys : List (Nat × Nat × Way)) {x : Array Known × List Nat} {seen : Nat × Nat × Way → Prop}, FInv t old s0 ((old.length + 1) * 2 ^ t.facts) r d0 x seen →
    (∀ y ∈ ys, ∃ n0 w0, at_ d0 n0 = some w0 ∧ Walk t old s0 (n0 / 2 ^ t.facts) (n0 % 2 ^ t.facts) w0 ∧ Hist t ((old.length + 1) * 2 ^ t.facts) r d0 n0 ∧ y ∈ moves t old (n0 / 2 ^ t.facts) (n0 % 2 ^ t.facts) w0) →
    ∃ seen', FInv t old s0 ((old.length + 1) * 2 ^ t.facts) r d0 (ys.foldl (upd1 t) x) seen' ∧ (∀ y, seen y ∨ y ∈ ys → seen' y)
  | [], x, seen, I, _ => ⟨seen, I, fun y h => by simpa using h⟩
  | y :: ys, x, seen, I, h => by
    obtain ⟨n0, w0, h1, h2, h3, h4⟩ := h y (List.mem_cons_self ..)
    have I2 := I.step W h0 h1 h2 h3 h4
    obtain ⟨seen', I3, h5⟩ := FInv.fold W h0 ys I2 fun z hz => h z (List.mem_cons_of_mem _ hz)
    refine ⟨seen', I3, fun z hz => h5 z ?_⟩
    rcases hz with hz | hz
    · exact .inl (.inl hz)
    · rcases List.mem_cons.mp hz with hz | hz
      · exact .inl (.inr hz)
      · exact .inr hz

def Relaxed (t : Task) (old : List Nat) (d : Array Known) (n : Nat) (w : Way) : Prop := ∀ y ∈ moves t old (n / 2 ^ t.facts) (n % 2 ^ t.facts) w, ∃ o, at_ d (code t y.1 y.2.1) = some o ∧ Le o y.2.2

structure Inv (t : Task) (old : List Nat) (s0 N r : Nat) (x : Array Known × List Nat) : Prop where
  size : x.1.size = N
  sound : ∀ n w, at_ x.1 n = some w → Walk t old s0 (n / 2 ^ t.facts) (n % 2 ^ t.facts) w
  start : ∃ o, at_ x.1 s0 = some o ∧ Le o ⟨0, 0, []⟩
  done : ∀ n w, n ∉ x.2 → at_ x.1 n = some w → Relaxed t old x.1 n w
  hist : ∀ n ∈ x.2, Hist t N r x.1 n

theorem Inv.round {t : Task} (W : WF t) {old : List Nat} {s0 r : Nat} (h0 : s0 < 2 ^ t.facts) {x : Array Known × List Nat} (I : Inv t old s0 ((old.length + 1) * 2 ^ t.facts) r x) :
    Inv t old s0 ((old.length + 1) * 2 ^ t.facts) (r + 1) (round t old x.1 x.2) := by
  rw [round_eq]
  have I0 : FInv t old s0 ((old.length + 1) * 2 ^ t.facts) r x.1 (x.1, []) (fun _ => False) :=
    ⟨I.size, I.sound, fun n o h => ⟨o, h, Le.refl o⟩, fun n _ => rfl, fun y h => h.elim, fun n h => by cases h⟩
  obtain ⟨seen, J, hs⟩ := I0.fold W h0 (offers t old x.1 x.2) fun y hy => by
    unfold offers at hy
    rw [List.mem_flatMap] at hy
    obtain ⟨n, hn, hy⟩ := hy
    split at hy
    · next w e => exact ⟨n, w, e, I.sound n w e, I.hist n hn, hy⟩
    · cases hy
  refine ⟨J.size, J.sound, ?_, fun n w hn h => ?_, J.hist⟩
  · obtain ⟨o, h1, h2⟩ := I.start
    obtain ⟨o', h3, h4⟩ := J.better _ o h1
    exact ⟨o', h3, h4.trans h2⟩
  · have e : at_ x.1 n = some w := (J.same n hn).symm.trans h
    intro y hy
    by_cases k : n ∈ x.2
    · refine J.seen y (hs y (.inr ?_))
      unfold offers
      rw [List.mem_flatMap]
      exact ⟨n, k, by rw [e]; exact hy⟩
    · obtain ⟨o, h1, h2⟩ := I.done n w k e y hy
      obtain ⟨o', h3, h4⟩ := J.better _ o h1
      exact ⟨o', h3, h4.trans h2⟩

theorem Inv.ends {t : Task} {old : List Nat} {s0 N r : Nat} {x : Array Known × List Nat} (I : Inv t old s0 N r x) (hr : N ≤ r) : x.2 = [] := by
  cases e : x.2 with
  | nil => rfl
  | cons n l =>
    obtain ⟨w, hist, h1, h2, h3, h4⟩ := I.hist n (by rw [e]; exact List.mem_cons_self ..)
    have hno : n ∉ hist := by
      intro z
      obtain ⟨_, o, k5, k6⟩ := h4 n z
      rw [h1] at k5
      cases k5
      omega
    have hn : n < N := by
      rw [← I.size]
      exact at_lt h1
    have := nodup_le N (n :: hist) (List.nodup_cons.mpr ⟨hno, h3⟩) fun v hv => by
      rcases List.mem_cons.mp hv with rfl | hv
      · exact hn
      · exact (h4 v hv).1
    rw [List.length_cons] at this
    omega

structure Settled (t : Task) (old : List Nat) (s0 : Nat) (d : Array Known) : Prop where
  sound : ∀ n w, at_ d n = some w → Walk t old s0 (n / 2 ^ t.facts) (n % 2 ^ t.facts) w
  start : ∃ o, at_ d s0 = some o ∧ Le o ⟨0, 0, []⟩
  done : ∀ n w, at_ d n = some w → Relaxed t old d n w

theorem Inv.settle {t : Task} (W : WF t) {old : List Nat} {s0 : Nat} (h0 : s0 < 2 ^ t.facts) : ∀ (f r : Nat) (x : Array Known × List Nat), (old.length + 1) * 2 ^ t.facts ≤ f + r → Inv t old s0 ((old.length + 1) * 2 ^ t.facts) r x → Settled t old s0 (settle t old f x)
  | 0, r, x, hr, I => by
    have e := I.ends (by omega)
    exact ⟨I.sound, I.start, fun n w h => I.done n w (by rw [e]; exact List.not_mem_nil) h⟩
  | f + 1, r, x, hr, I => by
    unfold Pn12.settle
    split
    · next e =>
      have e : x.2 = [] := by simpa using e
      exact ⟨I.sound, I.start, fun n w h => I.done n w (by rw [e]; exact List.not_mem_nil) h⟩
    · exact Inv.settle W h0 f (r + 1) _ (by omega) (I.round W h0)

theorem at_replicate (n m : Nat) : at_ (Array.replicate n none) m = none := by
  unfold at_
  rw [Array.getD_eq_getD_getElem?, Array.getElem?_replicate]
  split <;> rfl

theorem settled {t : Task} (W : WF t) (old : List Nat) {s0 : Nat} (h0 : s0 < 2 ^ t.facts) :
    Settled t old s0 (settle t old ((old.length + 1) * 2 ^ t.facts + 1) ((Array.replicate ((old.length + 1) * 2 ^ t.facts) none).setIfInBounds s0 (some ⟨0, 0, []⟩), [s0])) := by
  have hlt : s0 < (old.length + 1) * 2 ^ t.facts := by
    have := code_lt (t := t) (Nat.zero_le old.length) h0
    simpa [code] using this
  have hat : ∀ n, at_ ((Array.replicate ((old.length + 1) * 2 ^ t.facts) (none : Known)).setIfInBounds s0 (some ⟨0, 0, []⟩)) n = if s0 = n then some ⟨0, 0, []⟩ else none := by
    intro n
    rw [at_set, at_replicate, Array.size_replicate]
    by_cases e : s0 = n
    · rw [if_pos ⟨e, hlt⟩, if_pos e]
    · rw [if_neg fun z => e z.1, if_neg e]
  refine Inv.settle W h0 _ 0 _ (by omega) ⟨?_, fun n w h => ?_, ⟨⟨0, 0, []⟩, ?_, Le.refl _⟩, fun n w hn h => ?_, fun n h => ?_⟩
  · dsimp only
    rw [Array.size_setIfInBounds, Array.size_replicate]
  · dsimp only at h
    rw [hat] at h
    split at h
    · next e =>
      cases h
      subst e
      rw [Nat.div_eq_of_lt h0, Nat.mod_eq_of_lt h0]
      exact .start
    · cases h
  · dsimp only
    rw [hat, if_pos rfl]
  · dsimp only at h hn
    rw [hat] at h
    split at h
    · next e => exact (hn (by rw [e]; exact List.mem_singleton.mpr rfl)).elim
    · cases h
  · dsimp only at h ⊢
    have e := List.mem_singleton.mp h
    subst e
    exact ⟨⟨0, 0, []⟩, [], by rw [hat, if_pos rfl], rfl, List.nodup_nil, fun v hv => by cases hv⟩

/-- all that can be come to is known, or better -/
theorem Settled.all {t : Task} (W : WF t) {old : List Nat} {s0 : Nat} (h0 : s0 < 2 ^ t.facts) {d : Array Known} (S : Settled t old s0 d) {i s : Nat} {w : Way} (h : Walk t old s0 i s w) : ∃ o, at_ d (code t i s) = some o ∧ Le o w := by
  induction h with
  | start =>
    have e : code t 0 s0 = s0 := by simp [code]
    rw [e]
    exact S.start
  | step h m ih =>
    have ins := h.inside W h0
    obtain ⟨o, h1, h2⟩ := ih
    have h3 := S.done _ o h1
    unfold Relaxed at h3
    rw [code_div ins.2, code_mod ins.2] at h3
    obtain ⟨o', h4, h5⟩ := h3 (_, _, ext o _ _ _) (mem_moves.mpr ⟨_, _, _, m, rfl⟩)
    exact ⟨o', h4, h5.trans (h2.ext _ _ _)⟩

/-- the best of all ways to a state in which all wanted is so -/
def Best (t : Task) (old : List Nat) (s0 : Nat) : Known → Prop
  | none => ∀ u w, Walk t old s0 old.length u w → t.done u = false
  | some w => (∃ u, Walk t old s0 old.length u w ∧ t.done u = true) ∧ ∀ u w', Walk t old s0 old.length u w' → t.done u = true → Le w w'

def pick (t : Task) (d : Array Known) (n : Nat) (a : Known) (u : Nat) : Known := if t.done u = false then a else match a, at_ d (code t n u) with
    | none, y => y
    | x, none => x
    | some x, some y => if y.better x = true then some y else some x

theorem pick_fold (t : Task) (d : Array Known) (n : Nat) : ∀ (us : List Nat) (a : Known) (P : Way → Prop), (∀ w, a = some w → P w) → (∀ u w, u ∈ us → t.done u = true → at_ d (code t n u) = some w → P w) →
    (∀ w, us.foldl (pick t d n) a = some w → P w) ∧ (∀ w, a = some w → ∃ w', us.foldl (pick t d n) a = some w' ∧ Le w' w) ∧ (∀ u w, u ∈ us → t.done u = true → at_ d (code t n u) = some w → ∃ w', us.foldl (pick t d n) a = some w' ∧ Le w' w)
  | [], a, P, h1, h2 => ⟨h1, fun w h => ⟨w, h, Le.refl w⟩, fun u w h => by cases h⟩
  | u :: us, a, P, h1, h2 => by
    rw [List.foldl_cons]
    have key : (∀ w, pick t d n a u = some w → P w) ∧ (∀ w, a = some w → ∃ w', pick t d n a u = some w' ∧ Le w' w) ∧ (∀ w, t.done u = true → at_ d (code t n u) = some w → ∃ w', pick t d n a u = some w' ∧ Le w' w) := by
      unfold pick
      cases hd : t.done u with
      | false =>
        rw [if_pos rfl]
        exact ⟨h1, fun w h => ⟨w, h, Le.refl w⟩, fun w h => by cases h⟩
      | true =>
        rw [if_neg (by simp)]
        have h3 := fun w => h2 u w (List.mem_cons_self ..) hd
        cases a with
        | none =>
          dsimp only
          exact ⟨h3, fun w h => (by cases h), fun w _ h => ⟨w, h, Le.refl w⟩⟩
        | some x =>
          cases e : at_ d (code t n u) with
          | none =>
            dsimp only
            exact ⟨h1, fun w h => ⟨w, h, Le.refl w⟩, fun w _ h => by cases h⟩
          | some y =>
            dsimp only
            by_cases hb : y.better x = true
            · rw [if_pos hb]
              exact ⟨fun w h => by cases h; exact h3 _ e, fun w h => by cases h; exact ⟨y, rfl, Le.of_better hb⟩, fun w _ h => by cases h; exact ⟨_, rfl, Le.refl _⟩⟩
            · rw [if_neg hb]
              exact ⟨fun w h => by cases h; exact h1 _ rfl, fun w h => by cases h; exact ⟨_, rfl, Le.refl _⟩, fun w _ h => by cases h; exact ⟨x, rfl, Le.of_not hb⟩⟩
    obtain ⟨k1, k2, k3⟩ := key
    obtain ⟨g1, g2, g3⟩ := pick_fold t d n us (pick t d n a u) P k1 fun v w hv => h2 v w (List.mem_cons_of_mem _ hv)
    refine ⟨g1, fun w h => ?_, fun v w hv hd hw => ?_⟩
    · obtain ⟨w', h4, h5⟩ := k2 w h
      obtain ⟨w'', h6, h7⟩ := g2 w' h4
      exact ⟨w'', h6, h7.trans h5⟩
    · rcases List.mem_cons.mp hv with rfl | hv
      · obtain ⟨w', h4, h5⟩ := k3 w hd hw
        obtain ⟨w'', h6, h7⟩ := g2 w' h4
        exact ⟨w'', h6, h7.trans h5⟩
      · exact g3 v w hv hd hw

theorem nearest_best {t : Task} (W : WF t) (old : List Nat) {s0 : Nat} (h0 : s0 < 2 ^ t.facts) : Best t old s0 (nearest t old s0) := by
  have S := settled W old h0
  show Best t old s0 ((List.range (2 ^ t.facts)).foldl (pick t (settle t old ((old.length + 1) * 2 ^ t.facts + 1) ((Array.replicate ((old.length + 1) * 2 ^ t.facts) none).setIfInBounds s0 (some ⟨0, 0, []⟩), [s0])) old.length) none)
  generalize settle t old ((old.length + 1) * 2 ^ t.facts + 1) ((Array.replicate ((old.length + 1) * 2 ^ t.facts) none).setIfInBounds s0 (some ⟨0, 0, []⟩), [s0]) = d at S
  obtain ⟨h1, _, h3⟩ := pick_fold t d old.length (List.range (2 ^ t.facts)) none (fun w => ∃ u, Walk t old s0 old.length u w ∧ t.done u = true) (fun w h => by cases h) fun u w hu hd hw => by
    have hu := List.mem_range.mp hu
    have := S.sound _ w hw
    rw [code_div hu, code_mod hu] at this
    exact ⟨u, this, hd⟩
  have h4 : ∀ u w, Walk t old s0 old.length u w → t.done u = true → ∃ w', (List.range (2 ^ t.facts)).foldl (pick t d old.length) none = some w' ∧ Le w' w := by
    intro u w hw hd
    obtain ⟨o, k1, k2⟩ := S.all W h0 hw
    obtain ⟨w', k3, k4⟩ := h3 u o (List.mem_range.mpr (hw.inside W h0).2) hd k1
    exact ⟨w', k3, k4.trans k2⟩
  cases e : (List.range (2 ^ t.facts)).foldl (pick t d old.length) none with
  | none =>
    intro u w hw
    cases hd : t.done u with
    | false => rfl
    | true =>
      obtain ⟨w', k, _⟩ := h4 u w hw hd
      rw [e] at k
      cases k
  | some w =>
    refine ⟨h1 w e, fun u w' hw hd => ?_⟩
    obtain ⟨w'', k, k2⟩ := h4 u w' hw hd
    rw [e] at k
    cases k
    exact k2

/-- there is but one best -/
theorem Best.unique {t : Task} {old : List Nat} {s0 : Nat} {a b : Known} (ha : Best t old s0 a) (hb : Best t old s0 b) : a = b := by
  cases a with
  | none =>
    cases b with
    | none => rfl
    | some w =>
      obtain ⟨⟨u, h1, h2⟩, _⟩ := hb
      have := ha u w h1
      rw [h2] at this
      cases this
  | some v =>
    cases b with
    | none =>
      obtain ⟨⟨u, h1, h2⟩, _⟩ := ha
      have := hb u v h1
      rw [h2] at this
      cases this
    | some w =>
      obtain ⟨⟨u, h1, h2⟩, h3⟩ := ha
      obtain ⟨⟨u', k1, k2⟩, k3⟩ := hb
      rw [Le.antisymm (h3 u' w k1 k2) (k3 u v h1 h2)]
end Md

/-! The specification's first of the cheapest plans is just that. -/
namespace Md
open Pn (Act Task)

theorem foldl_add (l : List Nat) : ∀ a : Nat, l.foldl (fun a b => a + b) a = a + l.foldl (fun a b => a + b) 0 := by
  induction l with
  | nil => intro a; rfl
  | cons x r ih =>
    intro a
    rw [List.foldl_cons, List.foldl_cons, ih (a + x), ih (0 + x)]
    omega

theorem price_nil (t : Task) : t.price [] = 0 := rfl
theorem price_cons (t : Task) (k : Nat) (l : List Nat) : t.price (k :: l) = (t.act k).cost + t.price l := by
  show (((t.act k).cost :: l.map fun k => (t.act k).cost).foldl (fun a b => a + b) 0) = (t.act k).cost + (l.map fun k => (t.act k).cost).foldl (fun a b => a + b) 0
  rw [List.foldl_cons, foldl_add]
  omega
theorem price_append (t : Task) (l m : List Nat) : t.price (l ++ m) = t.price l + t.price m := by
  induction l with
  | nil => rw [List.nil_append, price_nil, Nat.zero_add]
  | cons k l ih => rw [List.cons_append, price_cons, price_cons, ih, Nat.add_assoc]

theorem goes_nil (t : Task) (s : Nat) : t.goes s [] = some s := rfl
theorem goes_cons (t : Task) (s k : Nat) (l : List Nat) : t.goes s (k :: l) = if t.can s k = true then t.goes ((t.act k).then_ s) l else none := rfl
theorem goes_cons_iff {t : Task} {s k u : Nat} {l : List Nat} : t.goes s (k :: l) = some u ↔ t.can s k = true ∧ t.goes ((t.act k).then_ s) l = some u := by
  rw [goes_cons]
  split
  · next h => simp [h]
  · next h => simp [h]
theorem goes_append {t : Task} {u : Nat} (m : List Nat) : ∀ {l : List Nat} {s : Nat}, t.goes s (l ++ m) = some u ↔ ∃ v, t.goes s l = some v ∧ t.goes v m = some u
  | [], s => by
    rw [List.nil_append, goes_nil]
    simp
  | k :: l, s => by
    rw [List.cons_append, goes_cons_iff, goes_append m]
    simp only [goes_cons_iff]
    constructor
    · rintro ⟨h, v, h1, h2⟩
      exact ⟨v, ⟨h, h1⟩, h2⟩
    · rintro ⟨v, ⟨h, h1⟩, h2⟩
      exact ⟨h, v, h1, h2⟩

theorem goes_lt {t : Task} (W : WF t) {u : Nat} : ∀ {l : List Nat} {s : Nat}, s < 2 ^ t.facts → t.goes s l = some u → u < 2 ^ t.facts
  | [], s, hs, h => by
    rw [goes_nil] at h
    cases h
    exact hs
  | k :: l, s, hs, h => by
    rw [goes_cons_iff] at h
    exact goes_lt W (W.then_lt hs h.1) h.2

theorem goes_acts {t : Task} {u : Nat} : ∀ {l : List Nat} {s : Nat}, t.goes s l = some u → ∀ k ∈ l, k < t.acts.length
  | [], _, _, k, hk => by cases hk
  | a :: l, s, h, k, hk => by
    rw [goes_cons_iff] at h
    rcases List.mem_cons.mp hk with rfl | hk
    · exact (can_iff.mp h.1).1
    · exact goes_acts h.2 k hk

theorem plan_iff {t : Task} {s : Nat} {l : List Nat} : t.plan s l = true ↔ ∃ u, t.goes s l = some u ∧ t.done u = true := by
  unfold Task.plan
  cases e : t.goes s l with
  | none => simp
  | some u => simp

theorem plan_nil {t : Task} {s : Nat} : t.plan s [] = t.done s := rfl
theorem plan_cons_iff {t : Task} {s k : Nat} {l : List Nat} : t.plan s (k :: l) = true ↔ t.can s k = true ∧ t.plan ((t.act k).then_ s) l = true := by
  rw [plan_iff, plan_iff]
  simp only [goes_cons_iff]
  constructor
  · rintro ⟨u, ⟨h1, h2⟩, h3⟩
    exact ⟨h1, u, h2, h3⟩
  · rintro ⟨h1, u, h2, h3⟩
    exact ⟨u, ⟨h1, h2⟩, h3⟩

/-- the states gone through -/
def trace (t : Task) : Nat → List Nat → List Nat
  | s, [] => [s]
  | s, k :: l => s :: trace t ((t.act k).then_ s) l

theorem trace_length (t : Task) : ∀ (l : List Nat) (s : Nat), (trace t s l).length = l.length + 1
  | [], _ => rfl
  | k :: l, s => by
    show (trace t ((t.act k).then_ s) l).length + 1 = l.length + 1 + 1
    rw [trace_length]

theorem trace_lt {t : Task} (W : WF t) {u : Nat} : ∀ {l : List Nat} {s : Nat}, s < 2 ^ t.facts → t.goes s l = some u → ∀ v ∈ trace t s l, v < 2 ^ t.facts
  | [], s, hs, _, v, hv => by
    have := List.mem_singleton.mp hv
    rw [this]
    exact hs
  | k :: l, s, hs, h, v, hv => by
    rw [goes_cons_iff] at h
    rcases List.mem_cons.mp hv with rfl | hv
    · exact hs
    · exact trace_lt W (W.then_lt hs h.1) h.2 v hv

theorem suffix {t : Task} {u v : Nat} : ∀ {l : List Nat} {s : Nat}, v ∈ trace t s l → t.goes s l = some u → (trace t s l).Nodup → ∃ l', t.goes v l' = some u ∧ (trace t v l').Nodup ∧ t.price l' ≤ t.price l
  | [], s, hv, h, hn => by
    have e := List.mem_singleton.mp hv
    subst e
    exact ⟨[], h, hn, Nat.le_refl _⟩
  | k :: l, s, hv, h, hn => by
    rcases List.mem_cons.mp hv with rfl | hv
    · exact ⟨k :: l, h, hn, Nat.le_refl _⟩
    · rw [goes_cons_iff] at h
      obtain ⟨l', h1, h2, h3⟩ := suffix hv h.2 (List.nodup_cons.mp hn).2
      refine ⟨l', h1, h2, ?_⟩
      rw [price_cons]
      omega

theorem loopless {t : Task} {u : Nat} : ∀ {l : List Nat} {s : Nat}, t.goes s l = some u → ∃ l', t.goes s l' = some u ∧ (trace t s l').Nodup ∧ t.price l' ≤ t.price l
  | [], s, h => ⟨[], h, by simp [trace], Nat.le_refl _⟩
  | k :: l, s, h => by
    rw [goes_cons_iff] at h
    obtain ⟨l', h1, h2, h3⟩ := loopless h.2
    by_cases e : s ∈ trace t ((t.act k).then_ s) l'
    · obtain ⟨l'', h4, h5, h6⟩ := suffix e h1 h2
      refine ⟨l'', h4, h5, ?_⟩
      rw [price_cons]
      omega
    · refine ⟨k :: l', goes_cons_iff.mpr ⟨h.1, h1⟩, List.nodup_cons.mpr ⟨e, h2⟩, ?_⟩
      rw [price_cons, price_cons]
      omega

theorem loopless_short {t : Task} (W : WF t) {s u : Nat} {l : List Nat} (hs : s < 2 ^ t.facts) (h : t.goes s l = some u) (hn : (trace t s l).Nodup) : l.length < 2 ^ t.facts := by
  have := nodup_le _ _ hn (trace_lt W hs h)
  rw [trace_length] at this
  omega

/-! rounds -/
def start0 (t : Task) : Array (Option Nat) := ((List.range (2 ^ t.facts)).map fun s => if t.done s = true then some 0 else none).toArray
def it (t : Task) : Nat → Array (Option Nat)
  | 0 => start0 t
  | n + 1 => t.round (it t n)

theorem at_range (n : Nat) (f : Nat → Option Nat) (s : Nat) : Pn.at_ ((List.range n).map f).toArray s = if s < n then f s else none := by
  unfold Pn.at_
  rw [Array.getD_eq_getD_getElem?, List.getElem?_toArray, List.getElem?_map]
  by_cases h : s < n
  · rw [if_pos h, List.getElem?_range h]
    rfl
  · rw [if_neg h, List.getElem?_eq_none (by simpa using h)]
    rfl

def relax (d : Array (Option Nat)) (s : Nat) (b : Option Nat) (a : Act) : Option Nat := if a.may s = true then Pn.least b ((Pn.at_ d (a.then_ s)).map fun c => a.cost + c) else b

theorem at_round (t : Task) (d : Array (Option Nat)) {s : Nat} (hs : s < 2 ^ t.facts) : Pn.at_ (t.round d) s = t.acts.foldl (relax d s) (Pn.at_ d s) := by
  have e : t.round d = ((List.range (2 ^ t.facts)).map fun s => t.acts.foldl (relax d s) (Pn.at_ d s)).toArray := rfl
  rw [e, at_range, if_pos hs]

theorem at_out (t : Task) (n : Nat) {s : Nat} (hs : ¬ s < 2 ^ t.facts) : Pn.at_ (it t n) s = none := by
  cases n with
  | zero =>
    show Pn.at_ (start0 t) s = none
    unfold start0
    rw [at_range, if_neg hs]
  | succ n =>
    have e : it t (n + 1) = ((List.range (2 ^ t.facts)).map fun s => t.acts.foldl (relax (it t n) s) (Pn.at_ (it t n) s)).toArray := rfl
    rw [e, at_range, if_neg hs]

theorem relax_fold (d : Array (Option Nat)) (s : Nat) : ∀ (as : List Act) (b : Option Nat) (P : Nat → Prop), (∀ c, b = some c → P c) → (∀ a ∈ as, a.may s = true → ∀ c, Pn.at_ d (a.then_ s) = some c → P (a.cost + c)) →
    (∀ c, as.foldl (relax d s) b = some c → P c) ∧ (∀ c, b = some c → ∃ c', as.foldl (relax d s) b = some c' ∧ c' ≤ c) ∧ (∀ a ∈ as, a.may s = true → ∀ c, Pn.at_ d (a.then_ s) = some c → ∃ c', as.foldl (relax d s) b = some c' ∧ c' ≤ a.cost + c)
  | [], b, P, h1, _ => ⟨h1, fun c h => ⟨c, h, Nat.le_refl _⟩, fun a ha => by cases ha⟩
  | a :: as, b, P, h1, h2 => by
    rw [List.foldl_cons]
    have key : (∀ c, relax d s b a = some c → P c) ∧ (∀ c, b = some c → ∃ c', relax d s b a = some c' ∧ c' ≤ c) ∧ (a.may s = true → ∀ c, Pn.at_ d (a.then_ s) = some c → ∃ c', relax d s b a = some c' ∧ c' ≤ a.cost + c) := by
      unfold relax
      by_cases hm : a.may s = true
      · rw [if_pos hm]
        have h3 := h2 a (List.mem_cons_self ..) hm
        cases e : Pn.at_ d (a.then_ s) with
        | none =>
          cases b with
          | none => exact ⟨fun c h => (by cases h), fun c h => (by cases h), fun _ c h => (by cases h)⟩
          | some x => exact ⟨h1, fun c h => ⟨c, h, Nat.le_refl _⟩, fun _ c h => (by cases h)⟩
        | some y =>
          have h4 := h3 y e
          cases b with
          | none =>
            refine ⟨fun c h => ?_, fun c h => (by cases h), fun _ c h => ?_⟩
            · have h : some (a.cost + y) = some c := h
              cases h
              exact h4
            · cases h
              exact ⟨a.cost + y, rfl, Nat.le_refl _⟩
          | some x =>
            refine ⟨fun c h => ?_, fun c h => ?_, fun _ c h => ?_⟩
            · have h : some (min x (a.cost + y)) = some c := h
              cases h
              rcases Nat.le_total x (a.cost + y) with k | k
              · rw [Nat.min_eq_left k]
                exact h1 x rfl
              · rw [Nat.min_eq_right k]
                exact h4
            · cases h
              exact ⟨_, rfl, Nat.min_le_left ..⟩
            · cases h
              exact ⟨_, rfl, Nat.min_le_right ..⟩
      · rw [if_neg hm]
        exact ⟨h1, fun c h => ⟨c, h, Nat.le_refl _⟩, fun k => (hm k).elim⟩
    obtain ⟨k1, k2, k3⟩ := key
    obtain ⟨g1, g2, g3⟩ := relax_fold d s as (relax d s b a) P k1 fun a' ha' => h2 a' (List.mem_cons_of_mem _ ha')
    refine ⟨g1, fun c h => ?_, fun a' ha' hm c hc => ?_⟩
    · obtain ⟨c', h4, h5⟩ := k2 c h
      obtain ⟨c'', h6, h7⟩ := g2 c' h4
      exact ⟨c'', h6, by omega⟩
    · rcases List.mem_cons.mp ha' with rfl | ha'
      · obtain ⟨c', h4, h5⟩ := k3 hm c hc
        obtain ⟨c'', h6, h7⟩ := g2 c' h4
        exact ⟨c'', h6, by omega⟩
      · exact g3 a' ha' hm c hc

theorem act_of_mem {t : Task} {a : Act} (h : a ∈ t.acts) : ∃ k, k < t.acts.length ∧ t.act k = a := by
  obtain ⟨k, hk, e⟩ := List.mem_iff_getElem.mp h
  refine ⟨k, hk, ?_⟩
  unfold Task.act
  rw [List.getD_eq_getElem?_getD, List.getElem?_eq_getElem hk]
  exact e

theorem it_sound {t : Task} : ∀ (n s c : Nat), Pn.at_ (it t n) s = some c → ∃ l, t.plan s l = true ∧ t.price l = c
  | 0, s, c, h => by
    have h : Pn.at_ (start0 t) s = some c := h
    unfold start0 at h
    rw [at_range] at h
    split at h
    · split at h
      · next hd =>
        cases h
        exact ⟨[], hd, rfl⟩
      · cases h
    · cases h
  | n + 1, s, c, h => by
    by_cases hs : s < 2 ^ t.facts
    · have h : Pn.at_ (t.round (it t n)) s = some c := h
      rw [at_round _ _ hs] at h
      refine (relax_fold (it t n) s t.acts _ (fun c => ∃ l, t.plan s l = true ∧ t.price l = c) (fun c h => it_sound n s c h) fun a ha hm c hc => ?_).1 c h
      obtain ⟨k, hk, rfl⟩ := act_of_mem ha
      obtain ⟨l, h1, h2⟩ := it_sound n _ c hc
      exact ⟨k :: l, plan_cons_iff.mpr ⟨can_iff.mpr ⟨hk, hm⟩, h1⟩, by rw [price_cons, h2]⟩
    · rw [at_out t _ hs] at h
      cases h

theorem it_all {t : Task} (W : WF t) : ∀ (n s : Nat) (l : List Nat), s < 2 ^ t.facts → l.length ≤ n → t.plan s l = true → ∃ c, Pn.at_ (it t n) s = some c ∧ c ≤ t.price l
  | 0, s, l, hs, hl, hp => by
    have e : l = [] := List.length_eq_zero_iff.mp (by omega)
    subst e
    rw [plan_nil] at hp
    refine ⟨0, ?_, Nat.zero_le _⟩
    show Pn.at_ (start0 t) s = some 0
    unfold start0
    rw [at_range, if_pos hs, if_pos hp]
  | n + 1, s, l, hs, hl, hp => by
    have key := relax_fold (it t n) s t.acts (Pn.at_ (it t n) s) (fun _ => True) (fun _ _ => trivial) (fun _ _ _ _ _ => trivial)
    rw [← at_round t _ hs] at key
    by_cases hl' : l.length ≤ n
    · obtain ⟨c, h1, h2⟩ := it_all W n s l hs hl' hp
      obtain ⟨c', h3, h4⟩ := key.2.1 c h1
      exact ⟨c', h3, by omega⟩
    · cases l with
      | nil => simp at hl'
      | cons k l =>
        rw [plan_cons_iff] at hp
        have hl2 : l.length ≤ n := by
          rw [List.length_cons] at hl
          omega
        obtain ⟨c, h1, h2⟩ := it_all W n _ l (W.then_lt hs hp.1) hl2 hp.2
        have hc := can_iff.mp hp.1
        obtain ⟨c', h3, h4⟩ := key.2.2 (t.act k) (act_mem hc.1) hc.2 c h1
        refine ⟨c', h3, ?_⟩
        rw [price_cons]
        omega

theorem settle_it (t : Task) : ∀ (n r : Nat), ∃ r', Pn.settle t.round n (it t r) = it t r' ∧ (r' = r + n ∨ t.round (it t r') = it t r')
  | 0, r => ⟨r, rfl, .inl rfl⟩
  | n + 1, r => by
    unfold Pn.settle
    dsimp only
    split
    · next e => exact ⟨r, rfl, .inr e⟩
    · obtain ⟨r', h1, h2⟩ := settle_it t n (r + 1)
      refine ⟨r', h1, ?_⟩
      rcases h2 with h2 | h2
      · exact .inl (by omega)
      · exact .inr h2

theorem it_fix {t : Task} {r : Nat} (h : t.round (it t r) = it t r) : ∀ n, it t (r + n) = it t r
  | 0 => rfl
  | n + 1 => by
    show t.round (it t (r + n)) = it t r
    rw [it_fix h n, h]

theorem costs_sound {t : Task} {s c : Nat} (h : Pn.at_ t.costs s = some c) : ∃ l, t.plan s l = true ∧ t.price l = c := by
  obtain ⟨r, h1, _⟩ := settle_it t (2 ^ t.facts + 1) 0
  have e : t.costs = it t r := h1
  rw [e] at h
  exact it_sound r s c h

theorem costs_all {t : Task} (W : WF t) {s : Nat} {l : List Nat} (hs : s < 2 ^ t.facts) (hp : t.plan s l = true) : ∃ c, Pn.at_ t.costs s = some c ∧ c ≤ t.price l := by
  obtain ⟨r, h1, h2⟩ := settle_it t (2 ^ t.facts + 1) 0
  have e : t.costs = it t r := h1
  rw [e]
  rw [plan_iff] at hp
  obtain ⟨u, g1, g2⟩ := hp
  obtain ⟨l', k1, k2, k3⟩ := loopless g1
  have hl := loopless_short W hs k1 k2
  have hp' : t.plan s l' = true := plan_iff.mpr ⟨u, k1, g2⟩
  have : ∃ c, Pn.at_ (it t r) s = some c ∧ c ≤ t.price l' := by
    rcases h2 with h2 | h2
    · exact it_all W r s l' hs (by omega) hp'
    · rcases Nat.le_total l'.length r with z | z
      · exact it_all W r s l' hs z hp'
      · have := it_all W l'.length s l' hs (Nat.le_refl _) hp'
        have e2 : l'.length = r + (l'.length - r) := by omega
        rw [e2, it_fix h2] at this
        exact this
  obtain ⟨c, h3, h4⟩ := this
  exact ⟨c, h3, by omega⟩

/-- what the cheapest plan costs -/
theorem costs_least {t : Task} (W : WF t) {s c : Nat} (hs : s < 2 ^ t.facts) (h : Pn.at_ t.costs s = some c) {l : List Nat} (hp : t.plan s l = true) : c ≤ t.price l := by
  obtain ⟨c', h1, h2⟩ := costs_all W hs hp
  rw [h] at h1
  cases h1
  exact h2

theorem costs_of {t : Task} (W : WF t) {s : Nat} {l : List Nat} (hs : s < 2 ^ t.facts) (hp : t.plan s l = true) (hl : ∀ l', t.plan s l' = true → t.price l ≤ t.price l') : Pn.at_ t.costs s = some (t.price l) := by
  obtain ⟨c, h1, h2⟩ := costs_all W hs hp
  obtain ⟨l', h3, h4⟩ := costs_sound h1
  have := hl l' h3
  rw [h1]
  exact congrArg some (by omega)

def IsFirst (t : Task) (s : Nat) : Option (List Nat) → Prop
  | none => ∀ l, t.plan s l = false
  | some l => t.plan s l = true ∧ (∀ l', t.plan s l' = true → t.price l ≤ t.price l') ∧ ∀ l', t.plan s l' = true → t.price l' = t.price l → l' = l ∨ Pn12.less l l' = true

theorem IsFirst.unique {t : Task} {s : Nat} {a b : Option (List Nat)} (ha : IsFirst t s a) (hb : IsFirst t s b) : a = b := by
  cases a with
  | none =>
    cases b with
    | none => rfl
    | some m =>
      have := ha m
      rw [hb.1] at this
      cases this
  | some l =>
    cases b with
    | none =>
      have := hb l
      rw [ha.1] at this
      cases this
    | some m =>
      obtain ⟨h1, h2, h3⟩ := ha
      obtain ⟨k1, k2, k3⟩ := hb
      have e : t.price l = t.price m := Nat.le_antisymm (h2 m k1) (k2 l h1)
      rcases h3 m k1 e.symm with h | h
      · rw [h]
      · rcases k3 l h1 e with k | k
        · rw [k]
        · rw [less_asymm h] at k
          cases k

/-- the acts with which some cheapest plan begins -/
def leads (t : Task) (s k : Nat) : Bool := t.can s k && ((Pn.at_ t.costs ((t.act k).then_ s)).map fun c => (t.act k).cost + c) == Pn.at_ t.costs s

theorem leads_of {t : Task} (W : WF t) {s c k : Nat} {l : List Nat} (hs : s < 2 ^ t.facts) (hc : Pn.at_ t.costs s = some c) (hp : t.plan s (k :: l) = true) (he : t.price (k :: l) = c) :
    leads t s k = true ∧ Pn.at_ t.costs ((t.act k).then_ s) = some (t.price l) := by
  rw [plan_cons_iff] at hp
  have hu := W.then_lt hs hp.1
  have e : Pn.at_ t.costs ((t.act k).then_ s) = some (t.price l) := by
    refine costs_of W hu hp.2 fun l' hl' => ?_
    have := costs_least W hs hc (l := k :: l') (plan_cons_iff.mpr ⟨hp.1, hl'⟩)
    rw [price_cons] at this he
    omega
  refine ⟨?_, e⟩
  unfold leads
  rw [e, hc, hp.1, ← he, price_cons]
  simp

theorem leads_iff {t : Task} {s c k : Nat} (hc : Pn.at_ t.costs s = some c) (h : leads t s k = true) : t.can s k = true ∧ ∃ c', Pn.at_ t.costs ((t.act k).then_ s) = some c' ∧ c = (t.act k).cost + c' := by
  unfold leads at h
  rw [Bool.and_eq_true, hc] at h
  refine ⟨h.1, ?_⟩
  have h2 := h.2
  cases e : Pn.at_ t.costs ((t.act k).then_ s) with
  | none =>
    rw [e] at h2
    simp at h2
  | some c' =>
    rw [e] at h2
    exact ⟨c', rfl, by simp at h2; omega⟩

theorem best_succ (t : Task) (n s : Nat) : t.best t.costs (n + 1) s = if t.done s = true then [] else match (List.range t.acts.length).find? (leads t s) with
    | some k => k :: t.best t.costs n ((t.act k).then_ s)
    | none => [] := rfl

theorem find_leads {t : Task} {s k : Nat} (h : leads t s k = true) : ∃ j, (List.range t.acts.length).find? (leads t s) = some j ∧ leads t s j = true ∧ j ≤ k := by
  have hk : k < t.acts.length := by
    unfold leads at h
    rw [Bool.and_eq_true] at h
    exact (can_iff.mp h.1).1
  cases e : (List.range t.acts.length).find? (leads t s) with
  | none =>
    have := List.find?_eq_none.mp e k (List.mem_range.mpr hk)
    exact (this h).elim
  | some j =>
    have h1 := List.find?_range_eq_some.mp e
    refine ⟨j, rfl, h1.1, ?_⟩
    rcases Nat.lt_or_ge k j with z | z
    · have := h1.2.2 k z
      rw [h] at this
      cases this
    · exact z

theorem cheap_zero {t : Task} (W : WF t) {s c : Nat} (hs : s < 2 ^ t.facts) (hc : Pn.at_ t.costs s = some c) (hd : t.done s = true) : c = 0 := by
  have := costs_least W hs hc (l := []) hd
  rw [price_nil] at this
  omega

theorem price_zero {t : Task} (W : WF t) {s : Nat} : ∀ {l : List Nat}, t.plan s l = true → t.price l = 0 → l = []
  | [], _, _ => rfl
  | k :: l, h, e => by
    have := (W.act (can_iff.mp (plan_cons_iff.mp h).1).1).2.2.2.2.1
    rw [price_cons] at e
    omega

theorem best_ok {t : Task} (W : WF t) : ∀ (n s c : Nat), s < 2 ^ t.facts → Pn.at_ t.costs s = some c →
    (t.plan s (t.best t.costs n s) = true ∧ t.price (t.best t.costs n s) = c) ∨ ((t.best t.costs n s).length = n ∧ ∃ m, t.plan s (t.best t.costs n s ++ m) = true ∧ t.price (t.best t.costs n s ++ m) = c)
  | 0, s, c, hs, hc => by
    obtain ⟨l, h1, h2⟩ := costs_sound hc
    exact .inr ⟨rfl, l, h1, h2⟩
  | n + 1, s, c, hs, hc => by
    rw [best_succ]
    by_cases hd : t.done s = true
    · rw [if_pos hd]
      exact .inl ⟨hd, (cheap_zero W hs hc hd).symm⟩
    · rw [if_neg hd]
      obtain ⟨l, h1, h2⟩ := costs_sound hc
      cases l with
      | nil => exact (hd h1).elim
      | cons k l =>
        obtain ⟨hl, _⟩ := leads_of W hs hc h1 h2
        obtain ⟨j, e, hj, _⟩ := find_leads hl
        rw [e]
        dsimp only
        obtain ⟨g1, c', g2, g3⟩ := leads_iff hc hj
        rcases best_ok W n _ c' (W.then_lt hs g1) g2 with ⟨k1, k2⟩ | ⟨k1, m, k2, k3⟩
        · exact .inl ⟨plan_cons_iff.mpr ⟨g1, k1⟩, by rw [price_cons, k2, g3]⟩
        · refine .inr ⟨by rw [List.length_cons, k1], m, ?_, ?_⟩
          · rw [List.cons_append]
            exact plan_cons_iff.mpr ⟨g1, k2⟩
          · rw [List.cons_append, price_cons, k3, g3]

theorem best_first {t : Task} (W : WF t) : ∀ (n s c : Nat) (l : List Nat), s < 2 ^ t.facts → Pn.at_ t.costs s = some c → t.plan s l = true → t.price l = c → l = t.best t.costs n s ∨ Pn12.less (t.best t.costs n s) l = true
  | 0, s, c, l, _, _, _, _ => by
    cases l with
    | nil => exact .inl rfl
    | cons k l => exact .inr rfl
  | n + 1, s, c, l, hs, hc, hp, he => by
    rw [best_succ]
    by_cases hd : t.done s = true
    · rw [if_pos hd]
      have := cheap_zero W hs hc hd
      exact .inl (price_zero W hp (by omega))
    · rw [if_neg hd]
      cases l with
      | nil => exact (hd hp).elim
      | cons k l =>
        obtain ⟨hl, h2⟩ := leads_of W hs hc hp he
        obtain ⟨j, e, hj, hk⟩ := find_leads hl
        rw [e]
        dsimp only
        rcases Nat.lt_or_eq_of_le hk with z | z
        · exact .inr (less_cons_iff.mpr (.inl z))
        · subst z
          rw [plan_cons_iff] at hp
          rcases best_first W n _ _ l (W.then_lt hs hp.1) h2 hp.2 rfl with g | g
          · exact .inl (by rw [← g])
          · exact .inr (less_cons_iff.mpr (.inr ⟨rfl, g⟩))

/-- a cheapest way comes into no state twice -/
theorem cheap_nodup {t : Task} (W : WF t) {u : Nat} : ∀ {l : List Nat} {s : Nat}, t.goes s l = some u → (∀ l', t.goes s l' = some u → t.price l ≤ t.price l') → (trace t s l).Nodup
  | [], s, _, _ => by simp [trace]
  | k :: l, s, h, hl => by
    rw [goes_cons_iff] at h
    have hl2 : ∀ l', t.goes ((t.act k).then_ s) l' = some u → t.price l ≤ t.price l' := fun l' h' => by
      have := hl (k :: l') (goes_cons_iff.mpr ⟨h.1, h'⟩)
      rw [price_cons, price_cons] at this
      omega
    have ih := cheap_nodup W h.2 hl2
    refine List.nodup_cons.mpr ⟨fun z => ?_, ih⟩
    obtain ⟨l', h1, _, h3⟩ := suffix z h.2 ih
    have := hl l' h1
    have := (W.act (can_iff.mp h.1).1).2.2.2.2.1
    rw [price_cons] at *
    omega

theorem first_is {t : Task} (W : WF t) {s : Nat} (hs : s < 2 ^ t.facts) : IsFirst t s (t.first s) := by
  unfold Task.first
  dsimp only
  cases hc : Pn.at_ t.costs s with
  | none =>
    intro l
    cases e : t.plan s l with
    | false => rfl
    | true =>
      obtain ⟨c, h1, _⟩ := costs_all W hs e
      rw [hc] at h1
      cases h1
  | some c =>
    dsimp only
    have key : t.plan s (t.best t.costs (2 ^ t.facts) s) = true ∧ t.price (t.best t.costs (2 ^ t.facts) s) = c := by
      rcases best_ok W (2 ^ t.facts) s c hs hc with h | ⟨h1, m, h2, h3⟩
      · exact h
      · exfalso
        obtain ⟨u, g1, g2⟩ := plan_iff.mp h2
        have hn := cheap_nodup W g1 fun l' hl' => by
          rw [h3]
          exact costs_least W hs hc (plan_iff.mpr ⟨u, hl', g2⟩)
        have := loopless_short W hs g1 hn
        rw [List.length_append] at this
        omega
    refine ⟨key.1, fun l' hl' => ?_, fun l' hl' he => best_first W _ s c l' hs hc hl' (he.trans key.2)⟩
    rw [key.2]
    exact costs_least W hs hc hl'
end Md

/-! What the rest needs, bit by bit; ways and how far one row is from another. -/
namespace Md
open Pn (Act Task)
open Pn12

theorem sub_bit (x y : Nat) : ∀ i, (x - x.land y).testBit i = (x.testBit i && !y.testBit i) := by
  intro i
  have key : ∀ (i x y : Nat), (x - (x &&& y)).testBit i = (x.testBit i && !y.testBit i) := by
    intro i
    induction i with
    | zero =>
      intro x y
      have h1 : (x &&& y) ≤ x := Nat.and_le_left
      have h2 := Nat.testBit_and x y 0
      simp only [Nat.testBit_zero] at h2 ⊢
      rcases Nat.mod_two_eq_zero_or_one x with hx | hx <;> rcases Nat.mod_two_eq_zero_or_one y with hy | hy <;> rcases Nat.mod_two_eq_zero_or_one (x &&& y) with hz | hz <;> simp [hx, hy, hz] at h2 ⊢ <;> omega
    | succ i ih =>
      intro x y
      rw [Nat.testBit_succ, Nat.testBit_succ, Nat.testBit_succ, ← ih]
      congr 1
      have h1 : (x &&& y) ≤ x := Nat.and_le_left
      have h3 : (x &&& y) / 2 = x / 2 &&& y / 2 := Nat.and_div_two
      have h4 : x / 2 &&& y / 2 ≤ x / 2 := Nat.and_le_left
      have h2 := Nat.testBit_and x y 0
      simp only [Nat.testBit_zero] at h2
      rcases Nat.mod_two_eq_zero_or_one x with hx | hx <;> rcases Nat.mod_two_eq_zero_or_one y with hy | hy <;> rcases Nat.mod_two_eq_zero_or_one (x &&& y) with hz | hz <;> simp [hx, hy, hz] at h2 <;> omega
  exact key i x y

theorem land_bit (x y i : Nat) : (x.land y).testBit i = (x.testBit i && y.testBit i) := Nat.testBit_and x y i
theorem lor_bit (x y i : Nat) : (x.lor y).testBit i = (x.testBit i || y.testBit i) := Nat.testBit_or x y i

def Sub (p s : Nat) : Prop := ∀ i, p.testBit i = true → s.testBit i = true
def Dis (q s : Nat) : Prop := ∀ i, q.testBit i = true → s.testBit i = false

theorem within_iff {a b : Nat} : Pn.within a b = true ↔ Sub a b := by
  unfold Pn.within Sub
  rw [beq_iff_eq]
  constructor
  · intro h i hi
    have := congrArg (·.testBit i) h
    simp only [land_bit, hi, Bool.true_and] at this
    exact this
  · intro h
    refine Nat.eq_of_testBit_eq fun i => ?_
    rw [land_bit]
    cases e : a.testBit i with
    | false => rfl
    | true => rw [h i e]; rfl

theorem apart_iff {a b : Nat} : Pn.apart a b = true ↔ Dis a b := by
  unfold Pn.apart Dis
  rw [beq_iff_eq]
  constructor
  · intro h i hi
    have := congrArg (·.testBit i) h
    simp only [land_bit, hi, Bool.true_and, Nat.zero_testBit] at this
    exact this
  · intro h
    refine Nat.eq_of_testBit_eq fun i => ?_
    rw [land_bit, Nat.zero_testBit]
    cases e : a.testBit i with
    | false => rfl
    | true => rw [h i e]; rfl

theorem land_ne {a b : Nat} (h : a.land b ≠ 0) : ∃ i, a.testBit i = true ∧ b.testBit i = true := by
  obtain ⟨i, hi⟩ := Nat.exists_testBit_of_ne_zero h
  rw [land_bit, Bool.and_eq_true] at hi
  exact ⟨i, hi⟩

theorem land_eq {a b : Nat} (h : a.land b = 0) (i : Nat) : a.testBit i = true → b.testBit i = false := by
  intro hi
  have := congrArg (·.testBit i) h
  simp only [land_bit, hi, Bool.true_and, Nat.zero_testBit] at this
  exact this

theorem then_bit (a : Act) (s i : Nat) : (a.then_ s).testBit i = ((s.testBit i && !a.del.testBit i) || a.add.testBit i) := by
  unfold Act.then_
  rw [lor_bit, sub_bit]

theorem may_iff {a : Act} {s : Nat} : a.may s = true ↔ Sub a.pre s ∧ Dis a.no s := by
  unfold Act.may
  rw [Bool.and_eq_true, within_iff, apart_iff]

/-- what a row of acts needs -/
def NeedsOk (t : Task) (l : List Nat) : Option (Nat × Nat) → Prop
  | none => ∀ s, t.plan s l = false
  | some (p, q) => p < 2 ^ t.facts ∧ q < 2 ^ t.facts ∧ p.land q = 0 ∧ ∀ s, t.plan s l = true ↔ Sub p s ∧ Dis q s

theorem sub_lt {x y n : Nat} (h : x < n) : x - y < n := by omega

theorem needs_ok {t : Task} (W : WF t) : ∀ (l : List Nat), (∀ k ∈ l, k < t.acts.length) → NeedsOk t l (needs t l)
  | [], _ => by
    show t.goal < _ ∧ 0 < _ ∧ _ = 0 ∧ ∀ s, t.plan s [] = true ↔ Sub t.goal s ∧ Dis 0 s
    refine ⟨W.goal, Nat.two_pow_pos _, Nat.and_zero _, fun s => ?_⟩
    rw [plan_nil]
    unfold Task.done
    rw [within_iff]
    exact ⟨fun h => ⟨h, fun i hi => by rw [Nat.zero_testBit] at hi; cases hi⟩, fun h => h.1⟩
  | k :: l, hk => by
    have h0 : k < t.acts.length := hk k (List.mem_cons_self ..)
    have ih := needs_ok W l fun j hj => hk j (List.mem_cons_of_mem _ hj)
    have hr := W.act h0
    unfold needs
    rw [if_neg (by omega)]
    cases e : needs t l with
    | none =>
      rw [e] at ih
      intro s
      cases e2 : t.plan s (k :: l) with
      | false => rfl
      | true =>
        have := ih ((t.act k).then_ s)
        rw [(plan_cons_iff.mp e2).2] at this
        cases this
    | some x =>
      obtain ⟨P, Q⟩ := x
      rw [e] at ih
      obtain ⟨hP, hQ, _, h3⟩ := ih
      dsimp only
      have step : ∀ s, t.plan s (k :: l) = true ↔ (Sub (t.act k).pre s ∧ Dis (t.act k).no s) ∧ Sub P ((t.act k).then_ s) ∧ Dis Q ((t.act k).then_ s) := fun s => by
        rw [plan_cons_iff, can_iff, may_iff, h3]
        exact ⟨fun h => ⟨h.1.2, h.2⟩, fun h => ⟨⟨h0, h.1⟩, h.2⟩⟩
      generalize t.act k = a at hr step
      have gone_bit : ∀ i, (a.del - a.del.land a.add).testBit i = (a.del.testBit i && !a.add.testBit i) := sub_bit _ _
      have gone_lt : a.del - a.del.land a.add < 2 ^ t.facts := sub_lt hr.2.2.2.1
      generalize a.del - a.del.land a.add = gone at gone_bit gone_lt
      have none_of : (∀ s, ¬ ((Sub a.pre s ∧ Dis a.no s) ∧ Sub P (a.then_ s) ∧ Dis Q (a.then_ s))) → ∀ s, t.plan s (k :: l) = false := fun h s => by
        cases e2 : t.plan s (k :: l) with
        | false => rfl
        | true => exact (h s ((step s).mp e2)).elim
      split
      · next hbad =>
        refine none_of fun s ⟨_, hs1, hs2⟩ => ?_
        rcases hbad with hbad | hbad
        · obtain ⟨i, h1, h2⟩ := land_ne hbad
          rw [gone_bit, Bool.and_eq_true] at h2
          have := hs1 i h1
          rw [then_bit] at this
          simp_all
        · obtain ⟨i, h1, h2⟩ := land_ne hbad
          have := hs2 i h1
          rw [then_bit] at this
          simp_all
      · next hok =>
        have hg : P.land gone = 0 := Classical.byContradiction fun z => hok (.inl z)
        have ha : Q.land a.add = 0 := Classical.byContradiction fun z => hok (.inr z)
        have pbit : ∀ i, ((P - P.land a.add).lor a.pre).testBit i = ((P.testBit i && !a.add.testBit i) || a.pre.testBit i) := fun i => by rw [lor_bit, sub_bit]
        have qbit : ∀ i, ((Q - Q.land gone).lor a.no).testBit i = ((Q.testBit i && !gone.testBit i) || a.no.testBit i) := fun i => by rw [lor_bit, sub_bit]
        have plt : (P - P.land a.add).lor a.pre < 2 ^ t.facts := Nat.or_lt_two_pow (sub_lt hP) hr.1
        have qlt : (Q - Q.land gone).lor a.no < 2 ^ t.facts := Nat.or_lt_two_pow (sub_lt hQ) hr.2.1
        generalize (P - P.land a.add).lor a.pre = p at pbit plt
        generalize (Q - Q.land gone).lor a.no = q at qbit qlt
        have all : ∀ s, ((Sub a.pre s ∧ Dis a.no s) ∧ Sub P (a.then_ s) ∧ Dis Q (a.then_ s)) ↔ Sub p s ∧ Dis q s := by
          intro s
          constructor
          · rintro ⟨⟨h1, h2⟩, h4, h5⟩
            refine ⟨fun i hi => ?_, fun i hi => ?_⟩
            · rw [pbit] at hi
              have k1 := h1 i
              have k2 := h4 i
              rw [then_bit] at k2
              cases e1 : a.pre.testBit i <;> cases e3 : P.testBit i <;> cases e4 : a.add.testBit i <;> simp_all
            · rw [qbit, gone_bit] at hi
              have k1 := h2 i
              have k2 := h5 i
              rw [then_bit] at k2
              cases e1 : a.no.testBit i <;> cases e3 : Q.testBit i <;> cases e4 : a.add.testBit i <;> cases e5 : a.del.testBit i <;> simp_all
          · rintro ⟨h1, h2⟩
            refine ⟨⟨fun i hi => h1 i (by rw [pbit, hi]; simp), fun i hi => h2 i (by rw [qbit, hi]; simp)⟩, fun i hi => ?_, fun i hi => ?_⟩
            · have k1 := land_eq hg i hi
              have k2 := h1 i
              rw [gone_bit] at k1
              rw [pbit] at k2
              rw [then_bit]
              cases e1 : a.add.testBit i <;> simp_all
            · have k1 := land_eq ha i hi
              have k2 := h2 i
              rw [qbit, gone_bit] at k2
              rw [then_bit]
              cases e1 : a.del.testBit i <;> simp_all
        split
        · next hpq =>
          refine none_of fun s hs => ?_
          obtain ⟨h1, h2⟩ := (all s).mp hs
          obtain ⟨i, g1, g2⟩ := land_ne hpq
          have := h1 i g1
          rw [h2 i g2] at this
          cases this
        · next hpq =>
          exact ⟨plt, qlt, Classical.byContradiction hpq, fun s => (step s).trans (all s)⟩

/-- it is told by the states from which the row does: the least and the greatest of them -/
theorem NeedsOk.unique {t : Task} {l : List Nat} {a b : Option (Nat × Nat)} (ha : NeedsOk t l a) (hb : NeedsOk t l b) : a = b := by
  have key : ∀ {p q p' q' : Nat}, p < 2 ^ t.facts → q < 2 ^ t.facts → p.land q = 0 → p' < 2 ^ t.facts → q' < 2 ^ t.facts → p'.land q' = 0 → (∀ s, (Sub p s ∧ Dis q s) ↔ (Sub p' s ∧ Dis q' s)) → ∀ i, (p'.testBit i = true → p.testBit i = true) ∧ (q'.testBit i = true → q.testBit i = true) := by
    intro p q p' q' hp hq h hp' hq' h' hs i
    constructor
    · intro hi
      have := ((hs p).mp ⟨fun _ z => z, fun j hj => by
        cases e : p.testBit j with
        | false => rfl
        | true => rw [land_eq h j e] at hj; cases hj⟩).1
      exact this i hi
    · intro hi
      have hb : ∀ j, (2 ^ t.facts - 1 - q).testBit j = (decide (j < t.facts) && !q.testBit j) := fun j => by
        rw [Nat.sub_sub, Nat.add_comm 1 q]
        exact Nat.testBit_two_pow_sub_succ hq j
      have lt_of : ∀ {x j : Nat}, x < 2 ^ t.facts → x.testBit j = true → j < t.facts := fun {x j} hx hj => by
        rcases Nat.lt_or_ge j t.facts with z | z
        · exact z
        · have := Nat.testBit_lt_two_pow (Nat.lt_of_lt_of_le hx (Nat.pow_le_pow_right (by decide) z))
          rw [hj] at this
          cases this
      have := ((hs (2 ^ t.facts - 1 - q)).mp ⟨fun j hj => by
        rw [hb, land_eq h j hj]
        simp [lt_of hp hj], fun j hj => by
        rw [hb, hj]
        simp⟩).2 i hi
      rw [hb] at this
      have hl := lt_of hq' hi
      simpa [hl] using this
  cases a with
  | none =>
    cases b with
    | none => rfl
    | some x =>
      obtain ⟨p, q⟩ := x
      obtain ⟨h1, h2, h3, h4⟩ := hb
      have := (h4 p).mpr ⟨fun _ z => z, fun j hj => by
        cases e : p.testBit j with
        | false => rfl
        | true => rw [land_eq h3 j e] at hj; cases hj⟩
      rw [ha p] at this
      cases this
  | some x =>
    obtain ⟨p, q⟩ := x
    obtain ⟨h1, h2, h3, h4⟩ := ha
    cases b with
    | none =>
      have := (h4 p).mpr ⟨fun _ z => z, fun j hj => by
        cases e : p.testBit j with
        | false => rfl
        | true => rw [land_eq h3 j e] at hj; cases hj⟩
      rw [hb p] at this
      cases this
    | some y =>
      obtain ⟨p', q'⟩ := y
      obtain ⟨k1, k2, k3, k4⟩ := hb
      have e1 := key h1 h2 h3 k1 k2 k3 fun s => (h4 s).symm.trans (k4 s)
      have e2 := key k1 k2 k3 h1 h2 h3 fun s => (k4 s).symm.trans (h4 s)
      have ep : p = p' := Nat.eq_of_testBit_eq fun i => Bool.eq_iff_iff.mpr ⟨(e2 i).1, (e1 i).1⟩
      have eq : q = q' := Nat.eq_of_testBit_eq fun i => Bool.eq_iff_iff.mpr ⟨(e2 i).2, (e1 i).2⟩
      rw [ep, eq]

/-! ways and rows -/
theorem snoc_keep {l m : List Nat} {n : Nat} (k : Nat) (h : From l m n) : From (l ++ [k]) (m ++ [k]) n := by
  induction h with
  | none => exact .keep .none
  | keep _ ih => exact .keep ih
  | left _ ih => exact .left ih
  | put _ ih => exact .put ih
theorem snoc_left {l m : List Nat} {n : Nat} (k : Nat) (h : From l m n) : From (l ++ [k]) m (n + 1) := by
  induction h with
  | none => exact .left .none
  | keep _ ih => exact .keep ih
  | left _ ih => exact .left ih
  | put _ ih => exact .put ih
theorem snoc_put {l m : List Nat} {n : Nat} (k : Nat) (h : From l m n) : From l (m ++ [k]) (n + 1) := by
  induction h with
  | none => exact .put .none
  | keep _ ih => exact .keep ih
  | left _ ih => exact .left ih
  | put _ ih => exact .put ih

theorem take_snoc {l : List Nat} {i k : Nat} (h : l[i]? = some k) : l.take (i + 1) = l.take i ++ [k] := by
  rw [List.take_add_one, h]
  rfl

theorem Walk.from {t : Task} {old : List Nat} {s0 i s : Nat} {w : Way} (h : Walk t old s0 i s w) : From (old.take i) w.l w.d ∧ t.goes s0 w.l = some s ∧ w.c = t.price w.l := by
  induction h with
  | start => exact ⟨.none, rfl, rfl⟩
  | step _ m ih =>
    obtain ⟨h1, h2, h3⟩ := ih
    cases m with
    | keep hk hc =>
      refine ⟨?_, (goes_append _).mpr ⟨_, h2, goes_cons_iff.mpr ⟨hc, rfl⟩⟩, ?_⟩
      · rw [take_snoc hk]
        exact snoc_keep _ h1
      · show _ + _ = t.price (_ ++ _)
        rw [price_append, price_cons, price_nil, h3]
        rfl
    | left hk =>
      refine ⟨?_, ?_, ?_⟩
      · rw [take_snoc hk]
        show From _ (_ ++ []) _
        rw [List.append_nil]
        exact snoc_left _ h1
      · show t.goes _ (_ ++ []) = _
        rw [List.append_nil]
        exact h2
      · show _ + 0 = t.price (_ ++ [])
        rw [List.append_nil]
        exact h3
    | put hc =>
      refine ⟨snoc_put _ h1, (goes_append _).mpr ⟨_, h2, goes_cons_iff.mpr ⟨hc, rfl⟩⟩, ?_⟩
      show _ + _ = t.price (_ ++ _)
      rw [price_append, price_cons, price_nil, h3]
      rfl

theorem ext_ext (w : Way) (d c d' c' : Nat) (l l' : List Nat) : ext (ext w d c l) d' c' l' = ext w (d + d') (c + c') (l ++ l') := by
  simp [ext, Nat.add_assoc]

theorem Walk.of_from {t : Task} {old : List Nat} {s0 u : Nat} {r m : List Nat} {n : Nat} (h : From r m n) : ∀ {i s : Nat} {w : Way}, Walk t old s0 i s w → old.drop i = r → t.goes s m = some u → Walk t old s0 (i + r.length) u (ext w n (t.price m) m) := by
  induction h with
  | none =>
    intro i s w hw _ hg
    rw [goes_nil] at hg
    cases hg
    have e : ext w 0 (t.price []) [] = w := by simp [ext, price_nil]
    rw [e]
    exact hw
  | @keep k n r m _ ih =>
    intro i s w hw hd hg
    rw [goes_cons_iff] at hg
    have hk : old[i]? = some k := by
      have := congrArg (·[0]?) hd
      simpa using this
    have hd2 : old.drop (i + 1) = r := by
      have := congrArg (·.drop 1) hd
      simpa [Nat.add_comm] using this
    have := ih (hw.step (.keep hk hg.1)) hd2 hg.2
    rw [ext_ext] at this
    rw [price_cons, List.length_cons]
    simpa [Nat.add_assoc, Nat.add_comm, Nat.add_left_comm] using this
  | @left k n r m _ ih =>
    intro i s w hw hd hg
    have hk : old[i]? = some k := by
      have := congrArg (·[0]?) hd
      simpa using this
    have hd2 : old.drop (i + 1) = r := by
      have := congrArg (·.drop 1) hd
      simpa [Nat.add_comm] using this
    have := ih (hw.step (.left hk)) hd2 hg
    rw [ext_ext] at this
    rw [List.length_cons]
    simpa [Nat.add_assoc, Nat.add_comm, Nat.add_left_comm] using this
  | @put k n r m _ ih =>
    intro i s w hw hd hg
    rw [goes_cons_iff] at hg
    have := ih (hw.step (.put hg.1)) hd hg.2
    rw [ext_ext] at this
    rw [price_cons]
    simpa [Nat.add_assoc, Nat.add_comm, Nat.add_left_comm] using this

/-- what can be come to at the row's end: a row of acts that goes, how far it is told to be, what it costs -/
theorem walk_iff {t : Task} {old : List Nat} {s0 u : Nat} {w : Way} : Walk t old s0 old.length u w ↔ From old w.l w.d ∧ t.goes s0 w.l = some u ∧ w.c = t.price w.l := by
  constructor
  · intro h
    have := h.from
    rwa [List.take_length] at this
  · rintro ⟨h1, h2, h3⟩
    have := Walk.of_from (old := old) h1 .start rfl h2
    rw [Nat.zero_add] at this
    have e : ext ⟨0, 0, []⟩ w.d (t.price w.l) w.l = w := by
      cases w
      simp_all [ext]
    rwa [e] at this

/-- the nearest, by rows alone -/
theorem best_iff {t : Task} {old : List Nat} {s0 : Nat} {a : Known} : Best t old s0 a ↔ match a with
    | none => ∀ l, t.plan s0 l = false
    | some w => (From old w.l w.d ∧ t.plan s0 w.l = true ∧ w.c = t.price w.l) ∧ ∀ l n, From old l n → t.plan s0 l = true → Le w ⟨n, t.price l, l⟩ := by
  cases a with
  | none =>
    constructor
    · intro h l
      cases e : t.plan s0 l with
      | false => rfl
      | true =>
        obtain ⟨u, h1, h2⟩ := plan_iff.mp e
        have far : From old l (old.length + l.length) := by
          have g : ∀ l : List Nat, From [] l l.length := fun l => by
            induction l with
            | nil => exact .none
            | cons k l ih => exact .put ih
          have g2 : ∀ o : List Nat, From o l (o.length + l.length) := fun o => by
            induction o with
            | nil => simpa using g l
            | cons k o ih =>
              have := From.left (k := k) ih
              rw [List.length_cons]
              simpa [Nat.add_assoc, Nat.add_comm, Nat.add_left_comm] using this
          exact g2 old
        have := h u ⟨_, t.price l, l⟩ (walk_iff.mpr ⟨far, h1, rfl⟩)
        rw [h2] at this
        cases this
    · intro h u w hw
      have h : ∀ l, t.plan s0 l = false := h
      cases e : t.done u with
      | false => rfl
      | true =>
        have := h w.l
        rw [plan_iff.mpr ⟨u, (walk_iff.mp hw).2.1, e⟩] at this
        cases this
  | some w =>
    dsimp only
    constructor
    · rintro ⟨⟨u, h1, h2⟩, h3⟩
      have h4 := walk_iff.mp h1
      refine ⟨⟨h4.1, plan_iff.mpr ⟨u, h4.2.1, h2⟩, h4.2.2⟩, fun l n hf hp => ?_⟩
      obtain ⟨v, g1, g2⟩ := plan_iff.mp hp
      exact h3 v ⟨n, t.price l, l⟩ (walk_iff.mpr ⟨hf, g1, rfl⟩) g2
    · rintro ⟨⟨h1, h2, h3⟩, h4⟩
      obtain ⟨u, g1, g2⟩ := plan_iff.mp h2
      refine ⟨⟨u, walk_iff.mpr ⟨h1, g1, h3⟩, g2⟩, fun v w' hw hd => ?_⟩
      obtain ⟨k1, k2, k3⟩ := walk_iff.mp hw
      have := h4 w'.l w'.d k1 (plan_iff.mpr ⟨v, k2, hd⟩)
      rw [← k3] at this
      exact this
end Md

/-! What holds of a house between calls; how calls are told in one list. Plain Lean: no program. -/
namespace Md
open Pn (Act Task)
structure Good (m : Pn12.House) : Prop where
  wf : WF m.task
  facts : 1 ≤ m.task.facts ∧ m.task.facts ≤ 5
  acts : m.task.acts.length ≤ 8
  now : m.now < 2 ^ m.task.facts
  rest : ∀ k ∈ m.rest, k < m.task.acts.length
  did : ∀ k ∈ m.did, k < m.task.acts.length

theorem good_init : Good Pn12.init := ⟨⟨by decide, fun a h => (by cases h)⟩, by decide, by decide, by decide, fun k h => (by cases h), fun k h => (by cases h)⟩

theorem go_good {t : Task} (W : WF t) : ∀ (n s : Nat) (l d : List Nat), s < 2 ^ t.facts → (Pn12.go t n s l d).1 < 2 ^ t.facts ∧ (∀ k ∈ (Pn12.go t n s l d).2.1, k ∈ l) ∧ (∀ k ∈ (Pn12.go t n s l d).2.2, k ∈ l ∨ k ∈ d) ∧ (Pn12.go t n s l d).2.1.length + (Pn12.go t n s l d).2.2.length = l.length + d.length
  | 0, s, l, d, hs => ⟨hs, fun k h => h, fun k h => .inr h, rfl⟩
  | n + 1, s, [], d, hs => ⟨hs, fun k h => h, fun k h => .inr h, rfl⟩
  | n + 1, s, k :: l, d, hs => by
    unfold Pn12.go
    split
    · next hc =>
      obtain ⟨h1, h2, h3, h4⟩ := go_good W n _ l (d ++ [k]) (W.then_lt hs hc)
      refine ⟨h1, fun j hj => List.mem_cons_of_mem _ (h2 j hj), fun j hj => ?_, ?_⟩
      · rcases h3 j hj with z | z
        · exact .inl (List.mem_cons_of_mem _ z)
        · rcases List.mem_append.mp z with z | z
          · exact .inr z
          · exact .inl (by rw [List.mem_singleton.mp z]; exact List.mem_cons_self ..)
      · rw [h4, List.length_append, List.length_cons]
        simp
        omega
    · exact ⟨hs, fun k h => h, fun k h => .inr h, rfl⟩

theorem nearest_acts {t : Task} (W : WF t) {old : List Nat} {s : Nat} (hs : s < 2 ^ t.facts) {w : Pn12.Way} (h : Pn12.nearest t old s = some w) : ∀ k ∈ w.l, k < t.acts.length := by
  have hb := nearest_best W old hs
  rw [h] at hb
  obtain ⟨⟨u, h1, _⟩, _⟩ := hb
  exact goes_acts (walk_iff.mp h1).2.1

/-- a call keeps a house good, and its rest and what was done are no longer than what was answered lets them be -/
theorem step_good {m : Pn12.House} (G : Good m) (c : Pn12.Call) : Good (Pn12.step m c).1 ∧ (Pn12.step m c).1.rest.length + (Pn12.step m c).1.did.length ≤ m.rest.length + m.did.length + (Pn12Neutral.out (Pn12.step m c).2).length + 8 := by
  cases c with
  | begins n s g =>
    unfold Pn12.step
    dsimp only
    split
    · exact ⟨G, by dsimp only; omega⟩
    · next h =>
      simp only [not_or] at h
      refine ⟨⟨⟨by show g < 2 ^ n; omega, fun a ha => (by cases ha)⟩, ?_, Nat.zero_le _, by show s < 2 ^ n; omega, fun k hk => (by cases hk), fun k hk => (by cases hk)⟩, Nat.zero_le _⟩
      have : ¬ 5 < n := h.2.1
      show 1 ≤ n ∧ n ≤ 5
      omega
  | act r =>
    unfold Pn12.step
    dsimp only
    split
    · exact ⟨G, by dsimp only; omega⟩
    · next h8 =>
      split
      · exact ⟨G, by dsimp only; omega⟩
      · next a ha =>
        have hr : a.right m.task.facts = true := by
          unfold Pn.act? at ha
          split at ha
          · dsimp only at ha
            split at ha
            · next h => cases ha; exact h
            · cases ha
          · cases ha
        have h8 : ¬ m.task.acts.length = 8 := h8
        have := G.acts
        refine ⟨⟨⟨G.wf.goal, fun b hb => ?_⟩, G.facts, ?_, G.now, fun k hk => ?_, fun k hk => ?_⟩, by dsimp only; omega⟩
        · rcases List.mem_append.mp hb with hb | hb
          · exact G.wf.acts b hb
          · rw [List.mem_singleton.mp hb]
            exact hr
        · show (m.task.acts ++ [a]).length ≤ 8
          rw [List.length_append]
          simp
          omega
        · show k < (m.task.acts ++ [a]).length
          rw [List.length_append]
          have := G.rest k hk
          simp
          omega
        · show k < (m.task.acts ++ [a]).length
          rw [List.length_append]
          have := G.did k hk
          simp
          omega
  | plan l =>
    unfold Pn12.step
    dsimp only
    split
    · exact ⟨G, by dsimp only; omega⟩
    · next h =>
      simp only [not_or] at h
      refine ⟨⟨G.wf, G.facts, G.acts, G.now, fun k hk => ?_, G.did⟩, ?_⟩
      · have h2 := h.2
        rw [Bool.not_eq_true, List.any_eq_false] at h2
        have := h2 k hk
        simp at this
        exact this
      · have : ¬ 8 < l.length := h.1
        dsimp only
        omega
  | goes n =>
    obtain ⟨h1, h2, h3, h4⟩ := go_good G.wf n m.now m.rest [] G.now
    unfold Pn12.step
    dsimp only
    refine ⟨⟨G.wf, G.facts, G.acts, h1, fun k hk => G.rest k (h2 k hk), fun k hk => ?_⟩, ?_⟩
    · rcases List.mem_append.mp hk with hk | hk
      · exact G.did k hk
      · rcases h3 k hk with z | z
        · exact G.rest k z
        · cases z
    · rw [List.length_append]
      simp only [List.length_nil] at h4
      omega
  | happens a d =>
    unfold Pn12.step
    dsimp only
    split
    · exact ⟨G, by dsimp only; omega⟩
    · next h =>
      simp only [not_or] at h
      refine ⟨⟨G.wf, G.facts, G.acts, ?_, G.rest, G.did⟩, by dsimp only; omega⟩
      have hn := G.now
      show (m.now - m.now.land d).lor a < 2 ^ m.task.facts
      exact Nat.or_lt_two_pow (show m.now - m.now.land d < 2 ^ m.task.facts by omega) (by omega)
  | wants g =>
    unfold Pn12.step
    dsimp only
    split
    · exact ⟨G, by dsimp only; omega⟩
    · next h => exact ⟨⟨⟨by show g < 2 ^ m.task.facts; omega, G.wf.acts⟩, G.facts, G.acts, G.now, G.rest, G.did⟩, by dsimp only; omega⟩
  | still => exact ⟨G, by show m.rest.length + m.did.length ≤ _; omega⟩
  | needs => exact ⟨G, by show m.rest.length + m.did.length ≤ _; omega⟩
  | near => exact ⟨G, by show m.rest.length + m.did.length ≤ _; omega⟩
  | mend =>
    unfold Pn12.step
    dsimp only
    cases e : Pn12.nearest m.task m.rest m.now with
    | none => exact ⟨G, by dsimp only; omega⟩
    | some w =>
      refine ⟨⟨G.wf, G.facts, G.acts, G.now, nearest_acts G.wf G.now e, G.did⟩, ?_⟩
      show w.l.length + m.did.length ≤ m.rest.length + m.did.length + (Pn12Neutral.out ⟨(w.d : Nat), w.c :: w.l⟩).length + 8
      unfold Pn12Neutral.out
      rw [List.length_cons, List.length_map, List.length_cons]
      omega
  | fresh => exact ⟨G, by show m.rest.length + m.did.length ≤ _; omega⟩
  | did => exact ⟨G, by show m.rest.length + m.did.length ≤ _; omega⟩

/-! ### calls in one list -/
/-- the numbers of a call, by its place -/
def bind : Nat → List Nat → Option Pn12.Call
  | 0, [n, s, g] => some (.begins n s g)
  | 1, r => some (.act r)
  | 2, r => some (.plan r)
  | 3, [n] => some (.goes n)
  | 4, [a, d] => some (.happens a d)
  | 5, [g] => some (.wants g)
  | 6, [] => some .still
  | 7, [] => some .needs
  | 8, [] => some .near
  | 9, [] => some .mend
  | 10, [] => some .fresh
  | 11, [] => some .did
  | _, _ => none
/-- how many numbers a call has; none: it tells so itself -/
def size : Nat → Option Nat
  | 0 => some 3
  | 1 => none
  | 2 => none
  | 3 => some 1
  | 4 => some 2
  | 5 => some 1
  | _ => some 0
def cast (l : List Nat) : List Int := l.map fun (n : Nat) => (n : Int)
theorem cast_toNat : ∀ (l : List Int), (∀ x ∈ l, 0 ≤ x) → cast (l.map Int.toNat) = l
  | [], _ => rfl
  | x :: l, h => by
    show ((x.toNat : Nat) : Int) :: cast (l.map Int.toNat) = x :: l
    rw [cast_toNat l fun y hy => h y (List.mem_cons_of_mem _ hy), Int.toNat_of_nonneg (h x (List.mem_cons_self ..))]
theorem toNat_cast (l : List Nat) : (cast l).map Int.toNat = l := by
  unfold cast
  rw [List.map_map]
  have e : (Int.toNat ∘ fun (n : Nat) => (n : Int)) = id := by
    funext n
    exact Int.toNat_natCast n
  rw [e, List.map_id]
theorem cast_take (l : List Nat) (n : Nat) : (cast l).take n = cast (l.take n) := List.map_take.symm
theorem cast_drop (l : List Nat) (n : Nat) : (cast l).drop n = cast (l.drop n) := List.map_drop.symm
theorem cast_len (l : List Nat) : (cast l).length = l.length := List.length_map _

/-- the first call of a list of numbers, as Python reads it -/
structure First (l : List Nat) (c : List (List Int)) (t : List Nat) : Prop where
  ex : ∃ (p : Nat) (args : List Nat) (x : Pn12.Call), p < 12 ∧ bind p args = some x ∧ Pn12Neutral.callOf (PyPn12.whole c) = some x ∧
    ((∃ n, size p = some n ∧ args.length = n ∧ l = p :: (args ++ t)) ∨ (size p = none ∧ l = p :: args.length :: (args ++ t)))

theorem shape_none (p : Nat) (h : 12 ≤ p) : PyPn12.shape (p : Int) = none := by
  unfold PyPn12.shape
  rw [if_neg (by omega), if_neg (by omega), if_neg (by omega), if_neg (by omega), if_neg (by omega), if_neg (by omega), if_neg (by omega), if_neg (by omega), if_neg (by omega), if_neg (by omega), if_neg (by omega), if_neg (by omega)]
theorem cast_nil : cast [] = [] := rfl
theorem cast_cons (n : Nat) (l : List Nat) : cast (n :: l) = (n : Int) :: cast l := rfl
/-- a call of numbers alone -/
theorem call_nums {p n : Nat} {r : List Nat} {c : List (List Int)} {t' : List Int} (hs : PyPn12.shape (p : Int) = some (n, 0)) (h : PyFlat.call PyPn12.shape (cast (p :: r)) = some (c, t')) : n ≤ r.length ∧ c = [cast (p :: r.take n)] ∧ t' = cast (r.drop n) := by
  rw [cast_cons] at h
  unfold PyFlat.call at h
  dsimp only at h
  rw [hs] at h
  dsimp only at h
  split at h
  · cases h
  · next hl =>
    unfold PyFlat.rows at h
    dsimp only at h
    cases h
    rw [cast_len] at hl
    exact ⟨by omega, by rw [cast_cons, cast_take], by rw [cast_drop]⟩
/-- a call of one row -/
theorem call_row {p : Nat} {r : List Nat} {c : List (List Int)} {t' : List Int} (hs : PyPn12.shape (p : Int) = some (0, 1)) (h : PyFlat.call PyPn12.shape (cast (p :: r)) = some (c, t')) : ∃ n r', r = n :: r' ∧ n ≤ r'.length ∧ c = [[(p : Int)], cast (r'.take n)] ∧ t' = cast (r'.drop n) := by
  rw [cast_cons] at h
  unfold PyFlat.call at h
  dsimp only at h
  rw [hs] at h
  dsimp only at h
  rw [if_neg (Nat.not_lt_zero _), List.drop_zero, List.take_zero] at h
  cases r with
  | nil =>
    rw [cast_nil] at h
    cases h
  | cons n r' =>
    refine ⟨n, r', rfl, ?_⟩
    rw [cast_cons] at h
    unfold PyFlat.rows PyFlat.row at h
    dsimp only at h
    split at h
    · cases h
    · next xs t e =>
      split at e
      · cases e
      · next x s e2 =>
        split at e2
        · next hn =>
          cases e2
          unfold PyFlat.rows at e
          dsimp only at e
          cases e
          cases h
          rw [cast_len, Int.toNat_natCast] at hn
          rw [Int.toNat_natCast]
          exact ⟨hn.2, by rw [cast_take], by rw [cast_drop]⟩
        · cases e2
theorem first_of {l : List Nat} {c : List (List Int)} {t' : List Int} (h : PyFlat.call PyPn12.shape (cast l) = some (c, t')) : ∃ t, t' = cast t ∧ First l c t := by
  cases l with
  | nil => cases h
  | cons p r =>
    rcases Nat.lt_or_ge p 12 with hp | hp
    · have nums : ∀ (n : Nat) (x : List Nat → Option Pn12.Call), PyPn12.shape (p : Int) = some (n, 0) → size p = some n → (∀ args : List Nat, args.length = n → ∃ y, bind p args = some y ∧ Pn12Neutral.callOf (PyPn12.whole [cast (p :: args)]) = some y) → ∃ t, t' = cast t ∧ First (p :: r) c t := by
        intro n x hs hz hx
        obtain ⟨h1, h2, h3⟩ := call_nums hs h
        have hl : (r.take n).length = n := by rw [List.length_take]; omega
        obtain ⟨y, k1, k2⟩ := hx (r.take n) hl
        exact ⟨r.drop n, h3, p, r.take n, y, hp, k1, by rw [h2]; exact k2, .inl ⟨n, hz, hl, by rw [List.take_append_drop]⟩⟩
      have row : PyPn12.shape (p : Int) = some (0, 1) → size p = none → (∀ args : List Nat, ∃ y, bind p args = some y ∧ Pn12Neutral.callOf (PyPn12.whole [[(p : Int)], cast args]) = some y) → ∃ t, t' = cast t ∧ First (p :: r) c t := by
        intro hs hz hx
        obtain ⟨n, r', rfl, h1, h2, h3⟩ := call_row hs h
        have hl : (r'.take n).length = n := by rw [List.length_take]; omega
        obtain ⟨y, k1, k2⟩ := hx (r'.take n)
        exact ⟨r'.drop n, h3, p, r'.take n, y, hp, k1, by rw [h2]; exact k2, .inr ⟨hz, by rw [hl, List.take_append_drop]⟩⟩
      match p, hp, h, nums, row with
      | 0, _, _, nums, _ =>
        exact nums 3 (fun _ => none) rfl rfl fun args ha => by
          match args, ha with
          | [a, b, d], _ => exact ⟨_, rfl, rfl⟩
      | 1, _, _, _, row =>
        exact row rfl rfl fun args => ⟨.act args, rfl, by
          show some (Pn12.Call.act (Pn12Neutral.nats (cast args))) = _
          unfold Pn12Neutral.nats
          rw [toNat_cast]⟩
      | 2, _, _, _, row =>
        exact row rfl rfl fun args => ⟨.plan args, rfl, by
          show some (Pn12.Call.plan (Pn12Neutral.nats (cast args))) = _
          unfold Pn12Neutral.nats
          rw [toNat_cast]⟩
      | 3, _, _, nums, _ =>
        exact nums 1 (fun _ => none) rfl rfl fun args ha => by
          match args, ha with
          | [a], _ => exact ⟨_, rfl, rfl⟩
      | 4, _, _, nums, _ =>
        exact nums 2 (fun _ => none) rfl rfl fun args ha => by
          match args, ha with
          | [a, b], _ => exact ⟨_, rfl, rfl⟩
      | 5, _, _, nums, _ =>
        exact nums 1 (fun _ => none) rfl rfl fun args ha => by
          match args, ha with
          | [a], _ => exact ⟨_, rfl, rfl⟩
      | 6, _, _, nums, _ =>
        exact nums 0 (fun _ => none) rfl rfl fun args ha => by
          match args, ha with
          | [], _ => exact ⟨_, rfl, rfl⟩
      | 7, _, _, nums, _ =>
        exact nums 0 (fun _ => none) rfl rfl fun args ha => by
          match args, ha with
          | [], _ => exact ⟨_, rfl, rfl⟩
      | 8, _, _, nums, _ =>
        exact nums 0 (fun _ => none) rfl rfl fun args ha => by
          match args, ha with
          | [], _ => exact ⟨_, rfl, rfl⟩
      | 9, _, _, nums, _ =>
        exact nums 0 (fun _ => none) rfl rfl fun args ha => by
          match args, ha with
          | [], _ => exact ⟨_, rfl, rfl⟩
      | 10, _, _, nums, _ =>
        exact nums 0 (fun _ => none) rfl rfl fun args ha => by
          match args, ha with
          | [], _ => exact ⟨_, rfl, rfl⟩
      | 11, _, _, nums, _ =>
        exact nums 0 (fun _ => none) rfl rfl fun args ha => by
          match args, ha with
          | [], _ => exact ⟨_, rfl, rfl⟩
      | p + 12, hp, _, _, _ => exact absurd hp (by omega)
    · rw [cast_cons] at h
      unfold PyFlat.call at h
      dsimp only at h
      rw [shape_none p hp] at h
      cases h
end Md

/-! ### The text, by places (printed by tool/gen.py from the linked text) -/
namespace Md
open PySem PySem.Spec PyProof.Rows L2
def top (i : Nat) : Stmt := PySem.Challenge.pw_mendedplans_s01_answers.main.body.getD i (.Pass ⟨0, 0, 0, 0⟩)
abbrev s_Act_init : Stmt := inClass (top 1) 0
abbrev n_Act_init : List Str := ["self", "row"]
theorem sc_Act_init : FnScope n_Act_init ["self", "row"] (defScope s_Act_init) := ⟨rfl, rfl, rfl, by decide +kernel, rfl, by decide +kernel, by decide +kernel⟩
abbrev s_Act_may_be_done : Stmt := inClass (top 1) 1
abbrev n_Act_may_be_done : List Str := ["self", "state"]
theorem sc_Act_may_be_done : FnScope n_Act_may_be_done ["self", "state"] (defScope s_Act_may_be_done) := ⟨rfl, rfl, rfl, by decide +kernel, rfl, by decide +kernel, by decide +kernel⟩
abbrev s_Act_state_behind : Stmt := inClass (top 1) 2
abbrev n_Act_state_behind : List Str := ["self", "state"]
theorem sc_Act_state_behind : FnScope n_Act_state_behind ["self", "state"] (defScope s_Act_state_behind) := ⟨rfl, rfl, rfl, by decide +kernel, rfl, by decide +kernel, by decide +kernel⟩
abbrev s_states_along : Stmt := top 2
abbrev n_states_along : List Str := ["acts", "state", "states", "act"]
theorem sc_states_along : FnScope n_states_along ["acts", "state"] (defScope s_states_along) := ⟨rfl, rfl, rfl, by decide +kernel, rfl, by decide +kernel, by decide +kernel⟩
abbrev s_needs_of : Stmt := top 3
abbrev n_needs_of : List Str := ["acts", "wanted", "must", "must_not", "act", "lost"]
theorem sc_needs_of : FnScope n_needs_of ["acts", "wanted"] (defScope s_needs_of) := ⟨rfl, rfl, rfl, by decide +kernel, rfl, by decide +kernel, by decide +kernel⟩
abbrev s_cheapest_plan : Stmt := top 5
abbrev n_cheapest_plan : List Str := ["acts", "state", "wanted", "ways", "passed", "way", "here"]
theorem sc_cheapest_plan : FnScope n_cheapest_plan ["acts", "state", "wanted"] (defScope s_cheapest_plan) := ⟨rfl, rfl, rfl, by decide +kernel, rfl, by decide +kernel, by decide +kernel⟩
abbrev s_dearer_ways : Stmt := top 6
abbrev n_dearer_ways : List Str := ["acts", "way", "number", "act"]
theorem sc_dearer_ways : FnScope n_dearer_ways ["acts", "way"] (defScope s_dearer_ways) := ⟨rfl, rfl, rfl, by decide +kernel, rfl, by decide +kernel, by decide +kernel⟩
abbrev s_nearest_plan : Stmt := top 7
abbrev n_nearest_plan : List Str := ["acts", "rest", "state", "wanted", "passed", "found", "far", "layer", "ends", "best", "place", "there", "way", "ways"]
theorem sc_nearest_plan : FnScope n_nearest_plan ["acts", "rest", "state", "wanted"] (defScope s_nearest_plan) := ⟨rfl, rfl, rfl, by decide +kernel, rfl, by decide +kernel, by decide +kernel⟩
abbrev s_layer_of : Stmt := top 8
abbrev n_layer_of : List Str := ["acts", "rest", "found", "passed", "layer", "place", "pairs", "kept"]
theorem sc_layer_of : FnScope n_layer_of ["acts", "rest", "found", "passed"] (defScope s_layer_of) := ⟨rfl, rfl, rfl, by decide +kernel, rfl, by decide +kernel, by decide +kernel⟩
abbrev s_best_ways : Stmt := top 9
abbrev n_best_ways : List Str := ["pairs", "passed", "ways", "state", "way"]
theorem sc_best_ways : FnScope n_best_ways ["pairs", "passed"] (defScope s_best_ways) := ⟨rfl, rfl, rfl, by decide +kernel, rfl, by decide +kernel, by decide +kernel⟩
abbrev s_one_farther : Stmt := top 10
abbrev n_one_farther : List Str := ["acts", "layer", "found", "place", "ways", "pairs", "number"]
theorem sc_one_farther : FnScope n_one_farther ["acts", "layer"] (defScope s_one_farther) := ⟨rfl, rfl, rfl, by decide +kernel, rfl, by decide +kernel, by decide +kernel⟩
abbrev s_ways_on : Stmt := top 11
abbrev n_ways_on : List Str := ["acts", "number", "ways", "act", "state", "way"]
theorem sc_ways_on : FnScope n_ways_on ["acts", "number", "ways"] (defScope s_ways_on) := ⟨rfl, rfl, rfl, by decide +kernel, rfl, by decide +kernel, by decide +kernel⟩
abbrev s_all_there : Stmt := top 21
abbrev n_all_there : List Str := ["chosen", "facts"]
theorem sc_all_there : FnScope n_all_there ["chosen", "facts"] (defScope s_all_there) := ⟨rfl, rfl, rfl, by decide +kernel, rfl, by decide +kernel, by decide +kernel⟩
abbrev s_House_init : Stmt := inClass (top 22) 0
abbrev n_House_init : List Str := ["self"]
theorem sc_House_init : FnScope n_House_init ["self"] (defScope s_House_init) := ⟨rfl, rfl, rfl, by decide +kernel, rfl, by decide +kernel, by decide +kernel⟩
abbrev s_House_set_anew : Stmt := inClass (top 22) 1
abbrev n_House_set_anew : List Str := ["self", "facts", "state", "wanted"]
theorem sc_House_set_anew : FnScope n_House_set_anew ["self", "facts", "state", "wanted"] (defScope s_House_set_anew) := ⟨rfl, rfl, rfl, by decide +kernel, rfl, by decide +kernel, by decide +kernel⟩
abbrev s_House_states_of : Stmt := inClass (top 22) 2
abbrev n_House_states_of : List Str := ["self", "numbers", "number"]
theorem sc_House_states_of : FnScope n_House_states_of ["self", "numbers"] (defScope s_House_states_of) := ⟨rfl, rfl, rfl, by decide +kernel, rfl, by decide +kernel, by decide +kernel⟩
abbrev s_House_rest_does : Stmt := inClass (top 22) 3
abbrev n_House_rest_does : List Str := ["self", "states"]
theorem sc_House_rest_does : FnScope n_House_rest_does ["self"] (defScope s_House_rest_does) := ⟨rfl, rfl, rfl, by decide +kernel, rfl, by decide +kernel, by decide +kernel⟩
abbrev s_answer_begins : Stmt := top 23
abbrev n_answer_begins : List Str := ["house", "given", "facts", "now", "wanted"]
theorem sc_answer_begins : FnScope n_answer_begins ["house", "given"] (defScope s_answer_begins) := ⟨rfl, rfl, rfl, by decide +kernel, rfl, by decide +kernel, by decide +kernel⟩
abbrev s_is_act : Stmt := top 24
abbrev n_is_act : List Str := ["row", "facts"]
theorem sc_is_act : FnScope n_is_act ["row", "facts"] (defScope s_is_act) := ⟨rfl, rfl, rfl, by decide +kernel, rfl, by decide +kernel, by decide +kernel⟩
abbrev s_answer_act : Stmt := top 25
abbrev n_answer_act : List Str := ["house", "row"]
theorem sc_answer_act : FnScope n_answer_act ["house", "row"] (defScope s_answer_act) := ⟨rfl, rfl, rfl, by decide +kernel, rfl, by decide +kernel, by decide +kernel⟩
abbrev s_answer_plan : Stmt := top 26
abbrev n_answer_plan : List Str := ["house", "numbers", "number"]
theorem sc_answer_plan : FnScope n_answer_plan ["house", "numbers"] (defScope s_answer_plan) := ⟨rfl, rfl, rfl, by decide +kernel, rfl, by decide +kernel, by decide +kernel⟩
abbrev s_answer_goes : Stmt := top 27
abbrev n_answer_goes : List Str := ["house", "given", "states", "gone"]
theorem sc_answer_goes : FnScope n_answer_goes ["house", "given"] (defScope s_answer_goes) := ⟨rfl, rfl, rfl, by decide +kernel, rfl, by decide +kernel, by decide +kernel⟩
abbrev s_answer_happens : Stmt := top 28
abbrev n_answer_happens : List Str := ["house", "given", "so", "not_so"]
theorem sc_answer_happens : FnScope n_answer_happens ["house", "given"] (defScope s_answer_happens) := ⟨rfl, rfl, rfl, by decide +kernel, rfl, by decide +kernel, by decide +kernel⟩
abbrev s_answer_wants : Stmt := top 29
abbrev n_answer_wants : List Str := ["house", "given"]
theorem sc_answer_wants : FnScope n_answer_wants ["house", "given"] (defScope s_answer_wants) := ⟨rfl, rfl, rfl, by decide +kernel, rfl, by decide +kernel, by decide +kernel⟩
abbrev s_answer_still : Stmt := top 30
abbrev n_answer_still : List Str := ["house", "given", "states"]
theorem sc_answer_still : FnScope n_answer_still ["house", "given"] (defScope s_answer_still) := ⟨rfl, rfl, rfl, by decide +kernel, rfl, by decide +kernel, by decide +kernel⟩
abbrev s_answer_needs : Stmt := top 31
abbrev n_answer_needs : List Str := ["house", "given", "needs", "number"]
theorem sc_answer_needs : FnScope n_answer_needs ["house", "given"] (defScope s_answer_needs) := ⟨rfl, rfl, rfl, by decide +kernel, rfl, by decide +kernel, by decide +kernel⟩
abbrev s_answer_near : Stmt := top 32
abbrev n_answer_near : List Str := ["house", "given", "nearest"]
theorem sc_answer_near : FnScope n_answer_near ["house", "given"] (defScope s_answer_near) := ⟨rfl, rfl, rfl, by decide +kernel, rfl, by decide +kernel, by decide +kernel⟩
abbrev s_answer_mend : Stmt := top 33
abbrev n_answer_mend : List Str := ["house", "given", "answer"]
theorem sc_answer_mend : FnScope n_answer_mend ["house", "given"] (defScope s_answer_mend) := ⟨rfl, rfl, rfl, by decide +kernel, rfl, by decide +kernel, by decide +kernel⟩
abbrev s_answer_fresh : Stmt := top 34
abbrev n_answer_fresh : List Str := ["house", "given", "cheapest"]
theorem sc_answer_fresh : FnScope n_answer_fresh ["house", "given"] (defScope s_answer_fresh) := ⟨rfl, rfl, rfl, by decide +kernel, rfl, by decide +kernel, by decide +kernel⟩
abbrev s_answer_did : Stmt := top 35
abbrev n_answer_did : List Str := ["house", "given", "cost", "number"]
theorem sc_answer_did : FnScope n_answer_did ["house", "given"] (defScope s_answer_did) := ⟨rfl, rfl, rfl, by decide +kernel, rfl, by decide +kernel, by decide +kernel⟩
abbrev s_answers : Stmt := top 37
abbrev n_answers : List Str := ["calls", "house", "answered", "at", "answer", "size", "numbers"]
theorem sc_answers : FnScope n_answers ["calls"] (defScope s_answers) := ⟨rfl, rfl, rfl, by decide +kernel, rfl, by decide +kernel, by decide +kernel⟩
structure Ad where
  a_Act : Addr
  a_House : Addr
  a_Act_init : Addr
  a_Act_may_be_done : Addr
  a_Act_state_behind : Addr
  a_states_along : Addr
  a_needs_of : Addr
  a_cheapest_plan : Addr
  a_dearer_ways : Addr
  a_nearest_plan : Addr
  a_layer_of : Addr
  a_best_ways : Addr
  a_one_farther : Addr
  a_ways_on : Addr
  a_all_there : Addr
  a_House_init : Addr
  a_House_set_anew : Addr
  a_House_states_of : Addr
  a_House_rest_does : Addr
  a_answer_begins : Addr
  a_is_act : Addr
  a_answer_act : Addr
  a_answer_plan : Addr
  a_answer_goes : Addr
  a_answer_happens : Addr
  a_answer_wants : Addr
  a_answer_still : Addr
  a_answer_needs : Addr
  a_answer_near : Addr
  a_answer_mend : Addr
  a_answer_fresh : Addr
  a_answer_did : Addr
  a_answers : Addr
  a_CALLS_0 : Addr
  a_CALLS_1 : Addr
  a_CALLS_2 : Addr
  a_CALLS_3 : Addr
  a_CALLS_4 : Addr
  a_CALLS_5 : Addr
  a_CALLS_6 : Addr
  a_CALLS_7 : Addr
  a_CALLS_8 : Addr
  a_CALLS_9 : Addr
  a_CALLS_10 : Addr
  a_CALLS_11 : Addr
  a_CALLS : Addr
structure Txt (K : PySem.W.Frag) (mg : Str → Option Value) (A : Ad) : Prop where
  cl_Act : Cls K A.a_Act
  g_Act : mg "Act" = some (.ref A.a_Act)
  mk_Act : Mk K A.a_Act A.a_Act_init
  na_Act_needed : NoAttr K A.a_Act "needed"
  na_Act_barred : NoAttr K A.a_Act "barred"
  na_Act_brought : NoAttr K A.a_Act "brought"
  na_Act_taken : NoAttr K A.a_Act "taken"
  na_Act_cost : NoAttr K A.a_Act "cost"
  cl_House : Cls K A.a_House
  g_House : mg "House" = some (.ref A.a_House)
  mk_House : Mk K A.a_House A.a_House_init
  na_House_facts : NoAttr K A.a_House "facts"
  na_House_state : NoAttr K A.a_House "state"
  na_House_wanted : NoAttr K A.a_House "wanted"
  na_House_acts : NoAttr K A.a_House "acts"
  na_House_rest : NoAttr K A.a_House "rest"
  na_House_done : NoAttr K A.a_House "done"
  fn_Act_init : ∃ fd, Fun K "__init__" "Act.__init__" s_Act_init A.a_Act_init fd ∧ Binds K fd ["self", "row"] [] ∧ (∀ (s : Shared) (us : List Value), us.length = (["self", "row"] : List Str).length → BindsTo s fd ⟨us, []⟩ ((["self", "row"] : List Str).zip us))
  fn_Act_may_be_done : ∃ fd, Fun K "may_be_done" "Act.may_be_done" s_Act_may_be_done A.a_Act_may_be_done fd ∧ Binds K fd ["self", "state"] [] ∧ (∀ (s : Shared) (us : List Value), us.length = (["self", "state"] : List Str).length → BindsTo s fd ⟨us, []⟩ ((["self", "state"] : List Str).zip us))
  me_Act_may_be_done : Meth K A.a_Act "may_be_done" A.a_Act_may_be_done
  fn_Act_state_behind : ∃ fd, Fun K "state_behind" "Act.state_behind" s_Act_state_behind A.a_Act_state_behind fd ∧ Binds K fd ["self", "state"] [] ∧ (∀ (s : Shared) (us : List Value), us.length = (["self", "state"] : List Str).length → BindsTo s fd ⟨us, []⟩ ((["self", "state"] : List Str).zip us))
  me_Act_state_behind : Meth K A.a_Act "state_behind" A.a_Act_state_behind
  fn_states_along : ∃ fd, Fun K "states_along" "states_along" s_states_along A.a_states_along fd ∧ Binds K fd ["acts", "state"] [] ∧ (∀ (s : Shared) (us : List Value), us.length = (["acts", "state"] : List Str).length → BindsTo s fd ⟨us, []⟩ ((["acts", "state"] : List Str).zip us))
  g_states_along : mg "states_along" = some (.ref A.a_states_along)
  kp_states_along : PySem.W.keepIn K (.ref A.a_states_along) = true
  fn_needs_of : ∃ fd, Fun K "needs_of" "needs_of" s_needs_of A.a_needs_of fd ∧ Binds K fd ["acts", "wanted"] [] ∧ (∀ (s : Shared) (us : List Value), us.length = (["acts", "wanted"] : List Str).length → BindsTo s fd ⟨us, []⟩ ((["acts", "wanted"] : List Str).zip us))
  g_needs_of : mg "needs_of" = some (.ref A.a_needs_of)
  kp_needs_of : PySem.W.keepIn K (.ref A.a_needs_of) = true
  fn_cheapest_plan : ∃ fd, Fun K "cheapest_plan" "cheapest_plan" s_cheapest_plan A.a_cheapest_plan fd ∧ Binds K fd ["acts", "state", "wanted"] [] ∧ (∀ (s : Shared) (us : List Value), us.length = (["acts", "state", "wanted"] : List Str).length → BindsTo s fd ⟨us, []⟩ ((["acts", "state", "wanted"] : List Str).zip us))
  g_cheapest_plan : mg "cheapest_plan" = some (.ref A.a_cheapest_plan)
  kp_cheapest_plan : PySem.W.keepIn K (.ref A.a_cheapest_plan) = true
  fn_dearer_ways : ∃ fd, Fun K "dearer_ways" "dearer_ways" s_dearer_ways A.a_dearer_ways fd ∧ Binds K fd ["acts", "way"] [] ∧ (∀ (s : Shared) (us : List Value), us.length = (["acts", "way"] : List Str).length → BindsTo s fd ⟨us, []⟩ ((["acts", "way"] : List Str).zip us))
  g_dearer_ways : mg "dearer_ways" = some (.ref A.a_dearer_ways)
  kp_dearer_ways : PySem.W.keepIn K (.ref A.a_dearer_ways) = true
  fn_nearest_plan : ∃ fd, Fun K "nearest_plan" "nearest_plan" s_nearest_plan A.a_nearest_plan fd ∧ Binds K fd ["acts", "rest", "state", "wanted"] [] ∧ (∀ (s : Shared) (us : List Value), us.length = (["acts", "rest", "state", "wanted"] : List Str).length → BindsTo s fd ⟨us, []⟩ ((["acts", "rest", "state", "wanted"] : List Str).zip us))
  g_nearest_plan : mg "nearest_plan" = some (.ref A.a_nearest_plan)
  kp_nearest_plan : PySem.W.keepIn K (.ref A.a_nearest_plan) = true
  fn_layer_of : ∃ fd, Fun K "layer_of" "layer_of" s_layer_of A.a_layer_of fd ∧ Binds K fd ["acts", "rest", "found", "passed"] [] ∧ (∀ (s : Shared) (us : List Value), us.length = (["acts", "rest", "found", "passed"] : List Str).length → BindsTo s fd ⟨us, []⟩ ((["acts", "rest", "found", "passed"] : List Str).zip us))
  g_layer_of : mg "layer_of" = some (.ref A.a_layer_of)
  kp_layer_of : PySem.W.keepIn K (.ref A.a_layer_of) = true
  fn_best_ways : ∃ fd, Fun K "best_ways" "best_ways" s_best_ways A.a_best_ways fd ∧ Binds K fd ["pairs", "passed"] [] ∧ (∀ (s : Shared) (us : List Value), us.length = (["pairs", "passed"] : List Str).length → BindsTo s fd ⟨us, []⟩ ((["pairs", "passed"] : List Str).zip us))
  g_best_ways : mg "best_ways" = some (.ref A.a_best_ways)
  kp_best_ways : PySem.W.keepIn K (.ref A.a_best_ways) = true
  fn_one_farther : ∃ fd, Fun K "one_farther" "one_farther" s_one_farther A.a_one_farther fd ∧ Binds K fd ["acts", "layer"] [] ∧ (∀ (s : Shared) (us : List Value), us.length = (["acts", "layer"] : List Str).length → BindsTo s fd ⟨us, []⟩ ((["acts", "layer"] : List Str).zip us))
  g_one_farther : mg "one_farther" = some (.ref A.a_one_farther)
  kp_one_farther : PySem.W.keepIn K (.ref A.a_one_farther) = true
  fn_ways_on : ∃ fd, Fun K "ways_on" "ways_on" s_ways_on A.a_ways_on fd ∧ Binds K fd ["acts", "number", "ways"] [] ∧ (∀ (s : Shared) (us : List Value), us.length = (["acts", "number", "ways"] : List Str).length → BindsTo s fd ⟨us, []⟩ ((["acts", "number", "ways"] : List Str).zip us))
  g_ways_on : mg "ways_on" = some (.ref A.a_ways_on)
  kp_ways_on : PySem.W.keepIn K (.ref A.a_ways_on) = true
  fn_all_there : ∃ fd, Fun K "all_there" "all_there" s_all_there A.a_all_there fd ∧ Binds K fd ["chosen", "facts"] [] ∧ (∀ (s : Shared) (us : List Value), us.length = (["chosen", "facts"] : List Str).length → BindsTo s fd ⟨us, []⟩ ((["chosen", "facts"] : List Str).zip us))
  g_all_there : mg "all_there" = some (.ref A.a_all_there)
  kp_all_there : PySem.W.keepIn K (.ref A.a_all_there) = true
  fn_House_init : ∃ fd, Fun K "__init__" "House.__init__" s_House_init A.a_House_init fd ∧ Binds K fd ["self"] [] ∧ (∀ (s : Shared) (us : List Value), us.length = (["self"] : List Str).length → BindsTo s fd ⟨us, []⟩ ((["self"] : List Str).zip us))
  fn_House_set_anew : ∃ fd, Fun K "set_anew" "House.set_anew" s_House_set_anew A.a_House_set_anew fd ∧ Binds K fd ["self", "facts", "state", "wanted"] [] ∧ (∀ (s : Shared) (us : List Value), us.length = (["self", "facts", "state", "wanted"] : List Str).length → BindsTo s fd ⟨us, []⟩ ((["self", "facts", "state", "wanted"] : List Str).zip us))
  me_House_set_anew : Meth K A.a_House "set_anew" A.a_House_set_anew
  fn_House_states_of : ∃ fd, Fun K "states_of" "House.states_of" s_House_states_of A.a_House_states_of fd ∧ Binds K fd ["self", "numbers"] [] ∧ (∀ (s : Shared) (us : List Value), us.length = (["self", "numbers"] : List Str).length → BindsTo s fd ⟨us, []⟩ ((["self", "numbers"] : List Str).zip us))
  me_House_states_of : Meth K A.a_House "states_of" A.a_House_states_of
  fn_House_rest_does : ∃ fd, Fun K "rest_does" "House.rest_does" s_House_rest_does A.a_House_rest_does fd ∧ Binds K fd ["self"] [] ∧ (∀ (s : Shared) (us : List Value), us.length = (["self"] : List Str).length → BindsTo s fd ⟨us, []⟩ ((["self"] : List Str).zip us))
  me_House_rest_does : Meth K A.a_House "rest_does" A.a_House_rest_does
  fn_answer_begins : ∃ fd, Fun K "answer_begins" "answer_begins" s_answer_begins A.a_answer_begins fd ∧ Binds K fd ["house", "given"] [] ∧ (∀ (s : Shared) (us : List Value), us.length = (["house", "given"] : List Str).length → BindsTo s fd ⟨us, []⟩ ((["house", "given"] : List Str).zip us))
  g_answer_begins : mg "answer_begins" = some (.ref A.a_answer_begins)
  kp_answer_begins : PySem.W.keepIn K (.ref A.a_answer_begins) = true
  fn_is_act : ∃ fd, Fun K "is_act" "is_act" s_is_act A.a_is_act fd ∧ Binds K fd ["row", "facts"] [] ∧ (∀ (s : Shared) (us : List Value), us.length = (["row", "facts"] : List Str).length → BindsTo s fd ⟨us, []⟩ ((["row", "facts"] : List Str).zip us))
  g_is_act : mg "is_act" = some (.ref A.a_is_act)
  kp_is_act : PySem.W.keepIn K (.ref A.a_is_act) = true
  fn_answer_act : ∃ fd, Fun K "answer_act" "answer_act" s_answer_act A.a_answer_act fd ∧ Binds K fd ["house", "row"] [] ∧ (∀ (s : Shared) (us : List Value), us.length = (["house", "row"] : List Str).length → BindsTo s fd ⟨us, []⟩ ((["house", "row"] : List Str).zip us))
  g_answer_act : mg "answer_act" = some (.ref A.a_answer_act)
  kp_answer_act : PySem.W.keepIn K (.ref A.a_answer_act) = true
  fn_answer_plan : ∃ fd, Fun K "answer_plan" "answer_plan" s_answer_plan A.a_answer_plan fd ∧ Binds K fd ["house", "numbers"] [] ∧ (∀ (s : Shared) (us : List Value), us.length = (["house", "numbers"] : List Str).length → BindsTo s fd ⟨us, []⟩ ((["house", "numbers"] : List Str).zip us))
  g_answer_plan : mg "answer_plan" = some (.ref A.a_answer_plan)
  kp_answer_plan : PySem.W.keepIn K (.ref A.a_answer_plan) = true
  fn_answer_goes : ∃ fd, Fun K "answer_goes" "answer_goes" s_answer_goes A.a_answer_goes fd ∧ Binds K fd ["house", "given"] [] ∧ (∀ (s : Shared) (us : List Value), us.length = (["house", "given"] : List Str).length → BindsTo s fd ⟨us, []⟩ ((["house", "given"] : List Str).zip us))
  g_answer_goes : mg "answer_goes" = some (.ref A.a_answer_goes)
  kp_answer_goes : PySem.W.keepIn K (.ref A.a_answer_goes) = true
  fn_answer_happens : ∃ fd, Fun K "answer_happens" "answer_happens" s_answer_happens A.a_answer_happens fd ∧ Binds K fd ["house", "given"] [] ∧ (∀ (s : Shared) (us : List Value), us.length = (["house", "given"] : List Str).length → BindsTo s fd ⟨us, []⟩ ((["house", "given"] : List Str).zip us))
  g_answer_happens : mg "answer_happens" = some (.ref A.a_answer_happens)
  kp_answer_happens : PySem.W.keepIn K (.ref A.a_answer_happens) = true
  fn_answer_wants : ∃ fd, Fun K "answer_wants" "answer_wants" s_answer_wants A.a_answer_wants fd ∧ Binds K fd ["house", "given"] [] ∧ (∀ (s : Shared) (us : List Value), us.length = (["house", "given"] : List Str).length → BindsTo s fd ⟨us, []⟩ ((["house", "given"] : List Str).zip us))
  g_answer_wants : mg "answer_wants" = some (.ref A.a_answer_wants)
  kp_answer_wants : PySem.W.keepIn K (.ref A.a_answer_wants) = true
  fn_answer_still : ∃ fd, Fun K "answer_still" "answer_still" s_answer_still A.a_answer_still fd ∧ Binds K fd ["house", "given"] [] ∧ (∀ (s : Shared) (us : List Value), us.length = (["house", "given"] : List Str).length → BindsTo s fd ⟨us, []⟩ ((["house", "given"] : List Str).zip us))
  g_answer_still : mg "answer_still" = some (.ref A.a_answer_still)
  kp_answer_still : PySem.W.keepIn K (.ref A.a_answer_still) = true
  fn_answer_needs : ∃ fd, Fun K "answer_needs" "answer_needs" s_answer_needs A.a_answer_needs fd ∧ Binds K fd ["house", "given"] [] ∧ (∀ (s : Shared) (us : List Value), us.length = (["house", "given"] : List Str).length → BindsTo s fd ⟨us, []⟩ ((["house", "given"] : List Str).zip us))
  g_answer_needs : mg "answer_needs" = some (.ref A.a_answer_needs)
  kp_answer_needs : PySem.W.keepIn K (.ref A.a_answer_needs) = true
  fn_answer_near : ∃ fd, Fun K "answer_near" "answer_near" s_answer_near A.a_answer_near fd ∧ Binds K fd ["house", "given"] [] ∧ (∀ (s : Shared) (us : List Value), us.length = (["house", "given"] : List Str).length → BindsTo s fd ⟨us, []⟩ ((["house", "given"] : List Str).zip us))
  g_answer_near : mg "answer_near" = some (.ref A.a_answer_near)
  kp_answer_near : PySem.W.keepIn K (.ref A.a_answer_near) = true
  fn_answer_mend : ∃ fd, Fun K "answer_mend" "answer_mend" s_answer_mend A.a_answer_mend fd ∧ Binds K fd ["house", "given"] [] ∧ (∀ (s : Shared) (us : List Value), us.length = (["house", "given"] : List Str).length → BindsTo s fd ⟨us, []⟩ ((["house", "given"] : List Str).zip us))
  g_answer_mend : mg "answer_mend" = some (.ref A.a_answer_mend)
  kp_answer_mend : PySem.W.keepIn K (.ref A.a_answer_mend) = true
  fn_answer_fresh : ∃ fd, Fun K "answer_fresh" "answer_fresh" s_answer_fresh A.a_answer_fresh fd ∧ Binds K fd ["house", "given"] [] ∧ (∀ (s : Shared) (us : List Value), us.length = (["house", "given"] : List Str).length → BindsTo s fd ⟨us, []⟩ ((["house", "given"] : List Str).zip us))
  g_answer_fresh : mg "answer_fresh" = some (.ref A.a_answer_fresh)
  kp_answer_fresh : PySem.W.keepIn K (.ref A.a_answer_fresh) = true
  fn_answer_did : ∃ fd, Fun K "answer_did" "answer_did" s_answer_did A.a_answer_did fd ∧ Binds K fd ["house", "given"] [] ∧ (∀ (s : Shared) (us : List Value), us.length = (["house", "given"] : List Str).length → BindsTo s fd ⟨us, []⟩ ((["house", "given"] : List Str).zip us))
  g_answer_did : mg "answer_did" = some (.ref A.a_answer_did)
  kp_answer_did : PySem.W.keepIn K (.ref A.a_answer_did) = true
  fn_answers : ∃ fd, Fun K "answers" "answers" s_answers A.a_answers fd ∧ Binds K fd ["calls"] [] ∧ (∀ (s : Shared) (us : List Value), us.length = (["calls"] : List Str).length → BindsTo s fd ⟨us, []⟩ ((["calls"] : List Str).zip us))
  g_answers : mg "answers" = some (.ref A.a_answers)
  kp_answers : PySem.W.keepIn K (.ref A.a_answers) = true
  g_WRONG : ∃ u, mg "WRONG" = some u ∧ RelV (.int (-1)) u
  g_NO_PLAN : ∃ u, mg "NO_PLAN" = some u ∧ RelV (.int (-6)) u
  g_FULL : ∃ u, mg "FULL" = some u ∧ RelV (.int (-7)) u
  g_MOST_FACTS : ∃ u, mg "MOST_FACTS" = some u ∧ RelV (.int (5)) u
  g_MOST_ACTS : ∃ u, mg "MOST_ACTS" = some u ∧ RelV (.int (8)) u
  g_MOST_PLANNED : ∃ u, mg "MOST_PLANNED" = some u ∧ RelV (.int (8)) u
  g_MOST_COST : ∃ u, mg "MOST_COST" = some u ∧ RelV (.int (1000)) u
  g_ROW_OF_ACT : ∃ u, mg "ROW_OF_ACT" = some u ∧ RelV (.int (5)) u
  g_CALLS : ∃ u, mg "CALLS" = some u ∧ RelV (.ref A.a_CALLS) u
  sq_CALLS_0 : ∀ H : Hp, SqT K H A.a_CALLS_0 [.ref A.a_answer_begins, .int 3]
  sq_CALLS_1 : ∀ H : Hp, SqT K H A.a_CALLS_1 [.ref A.a_answer_act, .non]
  sq_CALLS_2 : ∀ H : Hp, SqT K H A.a_CALLS_2 [.ref A.a_answer_plan, .non]
  sq_CALLS_3 : ∀ H : Hp, SqT K H A.a_CALLS_3 [.ref A.a_answer_goes, .int 1]
  sq_CALLS_4 : ∀ H : Hp, SqT K H A.a_CALLS_4 [.ref A.a_answer_happens, .int 2]
  sq_CALLS_5 : ∀ H : Hp, SqT K H A.a_CALLS_5 [.ref A.a_answer_wants, .int 1]
  sq_CALLS_6 : ∀ H : Hp, SqT K H A.a_CALLS_6 [.ref A.a_answer_still, .int 0]
  sq_CALLS_7 : ∀ H : Hp, SqT K H A.a_CALLS_7 [.ref A.a_answer_needs, .int 0]
  sq_CALLS_8 : ∀ H : Hp, SqT K H A.a_CALLS_8 [.ref A.a_answer_near, .int 0]
  sq_CALLS_9 : ∀ H : Hp, SqT K H A.a_CALLS_9 [.ref A.a_answer_mend, .int 0]
  sq_CALLS_10 : ∀ H : Hp, SqT K H A.a_CALLS_10 [.ref A.a_answer_fresh, .int 0]
  sq_CALLS_11 : ∀ H : Hp, SqT K H A.a_CALLS_11 [.ref A.a_answer_did, .int 0]
  sq_CALLS : ∀ H : Hp, SqT K H A.a_CALLS [.ref A.a_CALLS_0, .ref A.a_CALLS_1, .ref A.a_CALLS_2, .ref A.a_CALLS_3, .ref A.a_CALLS_4, .ref A.a_CALLS_5, .ref A.a_CALLS_6, .ref A.a_CALLS_7, .ref A.a_CALLS_8, .ref A.a_CALLS_9, .ref A.a_CALLS_10, .ref A.a_CALLS_11]
  n_all : mg "all" = none
  n_any : mg "any" = none
  n_enumerate : mg "enumerate" = none
  n_len : mg "len" = none
  n_list : mg "list" = none
  n_min : mg "min" = none
  n_range : mg "range" = none
  n_reversed : mg "reversed" = none
  n_sum : mg "sum" = none
end Md

namespace Md
open PySem PySem.Spec PyProof.Rows L2
theorem txt_mk {K : PySem.W.Frag} {h : Heap} {mg : Str → Option Value} (X : K.In h) (G : h.Ns mainGlobals mg)
    {a_Act a_House a_Act_init a_Act_may_be_done a_Act_state_behind a_states_along a_needs_of a_cheapest_plan a_dearer_ways a_nearest_plan a_layer_of a_best_ways a_one_farther a_ways_on a_all_there a_House_init a_House_set_anew a_House_states_of a_House_rest_does a_answer_begins a_is_act a_answer_act a_answer_plan a_answer_goes a_answer_happens a_answer_wants a_answer_still a_answer_needs a_answer_near a_answer_mend a_answer_fresh a_answer_did a_answers a_CALLS_0 a_CALLS_1 a_CALLS_2 a_CALLS_3 a_CALLS_4 a_CALLS_5 a_CALLS_6 a_CALLS_7 a_CALLS_8 a_CALLS_9 a_CALLS_10 a_CALLS_11 a_CALLS : Addr}
    {t_WRONG t_NO_PLAN t_FULL t_MOST_FACTS t_MOST_ACTS t_MOST_PLANNED t_MOST_COST t_ROW_OF_ACT : Nat}
    {od_Act_init an_Act_init : Option Addr} {sl_Act_init : Array (Option Value)} {oc_Act_init kV_Act_init dc_Act_init pm_Act_init cd_Act_init ct_Act_init : Value}
    {od_Act_may_be_done an_Act_may_be_done : Option Addr} {sl_Act_may_be_done : Array (Option Value)} {oc_Act_may_be_done kV_Act_may_be_done dc_Act_may_be_done pm_Act_may_be_done cd_Act_may_be_done ct_Act_may_be_done : Value}
    {od_Act_state_behind an_Act_state_behind : Option Addr} {sl_Act_state_behind : Array (Option Value)} {oc_Act_state_behind kV_Act_state_behind dc_Act_state_behind pm_Act_state_behind cd_Act_state_behind ct_Act_state_behind : Value}
    {od_states_along an_states_along : Option Addr} {sl_states_along : Array (Option Value)} {oc_states_along kV_states_along dc_states_along pm_states_along cd_states_along ct_states_along : Value}
    {od_needs_of an_needs_of : Option Addr} {sl_needs_of : Array (Option Value)} {oc_needs_of kV_needs_of dc_needs_of pm_needs_of cd_needs_of ct_needs_of : Value}
    {od_cheapest_plan an_cheapest_plan : Option Addr} {sl_cheapest_plan : Array (Option Value)} {oc_cheapest_plan kV_cheapest_plan dc_cheapest_plan pm_cheapest_plan cd_cheapest_plan ct_cheapest_plan : Value}
    {od_dearer_ways an_dearer_ways : Option Addr} {sl_dearer_ways : Array (Option Value)} {oc_dearer_ways kV_dearer_ways dc_dearer_ways pm_dearer_ways cd_dearer_ways ct_dearer_ways : Value}
    {od_nearest_plan an_nearest_plan : Option Addr} {sl_nearest_plan : Array (Option Value)} {oc_nearest_plan kV_nearest_plan dc_nearest_plan pm_nearest_plan cd_nearest_plan ct_nearest_plan : Value}
    {od_layer_of an_layer_of : Option Addr} {sl_layer_of : Array (Option Value)} {oc_layer_of kV_layer_of dc_layer_of pm_layer_of cd_layer_of ct_layer_of : Value}
    {od_best_ways an_best_ways : Option Addr} {sl_best_ways : Array (Option Value)} {oc_best_ways kV_best_ways dc_best_ways pm_best_ways cd_best_ways ct_best_ways : Value}
    {od_one_farther an_one_farther : Option Addr} {sl_one_farther : Array (Option Value)} {oc_one_farther kV_one_farther dc_one_farther pm_one_farther cd_one_farther ct_one_farther : Value}
    {od_ways_on an_ways_on : Option Addr} {sl_ways_on : Array (Option Value)} {oc_ways_on kV_ways_on dc_ways_on pm_ways_on cd_ways_on ct_ways_on : Value}
    {od_all_there an_all_there : Option Addr} {sl_all_there : Array (Option Value)} {oc_all_there kV_all_there dc_all_there pm_all_there cd_all_there ct_all_there : Value}
    {od_House_init an_House_init : Option Addr} {sl_House_init : Array (Option Value)} {oc_House_init kV_House_init dc_House_init pm_House_init cd_House_init ct_House_init : Value}
    {od_House_set_anew an_House_set_anew : Option Addr} {sl_House_set_anew : Array (Option Value)} {oc_House_set_anew kV_House_set_anew dc_House_set_anew pm_House_set_anew cd_House_set_anew ct_House_set_anew : Value}
    {od_House_states_of an_House_states_of : Option Addr} {sl_House_states_of : Array (Option Value)} {oc_House_states_of kV_House_states_of dc_House_states_of pm_House_states_of cd_House_states_of ct_House_states_of : Value}
    {od_House_rest_does an_House_rest_does : Option Addr} {sl_House_rest_does : Array (Option Value)} {oc_House_rest_does kV_House_rest_does dc_House_rest_does pm_House_rest_does cd_House_rest_does ct_House_rest_does : Value}
    {od_answer_begins an_answer_begins : Option Addr} {sl_answer_begins : Array (Option Value)} {oc_answer_begins kV_answer_begins dc_answer_begins pm_answer_begins cd_answer_begins ct_answer_begins : Value}
    {od_is_act an_is_act : Option Addr} {sl_is_act : Array (Option Value)} {oc_is_act kV_is_act dc_is_act pm_is_act cd_is_act ct_is_act : Value}
    {od_answer_act an_answer_act : Option Addr} {sl_answer_act : Array (Option Value)} {oc_answer_act kV_answer_act dc_answer_act pm_answer_act cd_answer_act ct_answer_act : Value}
    {od_answer_plan an_answer_plan : Option Addr} {sl_answer_plan : Array (Option Value)} {oc_answer_plan kV_answer_plan dc_answer_plan pm_answer_plan cd_answer_plan ct_answer_plan : Value}
    {od_answer_goes an_answer_goes : Option Addr} {sl_answer_goes : Array (Option Value)} {oc_answer_goes kV_answer_goes dc_answer_goes pm_answer_goes cd_answer_goes ct_answer_goes : Value}
    {od_answer_happens an_answer_happens : Option Addr} {sl_answer_happens : Array (Option Value)} {oc_answer_happens kV_answer_happens dc_answer_happens pm_answer_happens cd_answer_happens ct_answer_happens : Value}
    {od_answer_wants an_answer_wants : Option Addr} {sl_answer_wants : Array (Option Value)} {oc_answer_wants kV_answer_wants dc_answer_wants pm_answer_wants cd_answer_wants ct_answer_wants : Value}
    {od_answer_still an_answer_still : Option Addr} {sl_answer_still : Array (Option Value)} {oc_answer_still kV_answer_still dc_answer_still pm_answer_still cd_answer_still ct_answer_still : Value}
    {od_answer_needs an_answer_needs : Option Addr} {sl_answer_needs : Array (Option Value)} {oc_answer_needs kV_answer_needs dc_answer_needs pm_answer_needs cd_answer_needs ct_answer_needs : Value}
    {od_answer_near an_answer_near : Option Addr} {sl_answer_near : Array (Option Value)} {oc_answer_near kV_answer_near dc_answer_near pm_answer_near cd_answer_near ct_answer_near : Value}
    {od_answer_mend an_answer_mend : Option Addr} {sl_answer_mend : Array (Option Value)} {oc_answer_mend kV_answer_mend dc_answer_mend pm_answer_mend cd_answer_mend ct_answer_mend : Value}
    {od_answer_fresh an_answer_fresh : Option Addr} {sl_answer_fresh : Array (Option Value)} {oc_answer_fresh kV_answer_fresh dc_answer_fresh pm_answer_fresh cd_answer_fresh ct_answer_fresh : Value}
    {od_answer_did an_answer_did : Option Addr} {sl_answer_did : Array (Option Value)} {oc_answer_did kV_answer_did dc_answer_did pm_answer_did cd_answer_did ct_answer_did : Value}
    {od_answers an_answers : Option Addr} {sl_answers : Array (Option Value)} {oc_answers kV_answers dc_answers pm_answers cd_answers ct_answers : Value}
    {do_CALLS : Option Addr} {ns_CALLS : Nat} {ss_CALLS : Array (Option Value)}
    {ti_CALLS_0_1 : Nat}
    {do_CALLS_0 : Option Addr} {ns_CALLS_0 : Nat} {ss_CALLS_0 : Array (Option Value)}
    {do_CALLS_1 : Option Addr} {ns_CALLS_1 : Nat} {ss_CALLS_1 : Array (Option Value)}
    {do_CALLS_2 : Option Addr} {ns_CALLS_2 : Nat} {ss_CALLS_2 : Array (Option Value)}
    {ti_CALLS_3_1 : Nat}
    {do_CALLS_3 : Option Addr} {ns_CALLS_3 : Nat} {ss_CALLS_3 : Array (Option Value)}
    {ti_CALLS_4_1 : Nat}
    {do_CALLS_4 : Option Addr} {ns_CALLS_4 : Nat} {ss_CALLS_4 : Array (Option Value)}
    {ti_CALLS_5_1 : Nat}
    {do_CALLS_5 : Option Addr} {ns_CALLS_5 : Nat} {ss_CALLS_5 : Array (Option Value)}
    {ti_CALLS_6_1 : Nat}
    {do_CALLS_6 : Option Addr} {ns_CALLS_6 : Nat} {ss_CALLS_6 : Array (Option Value)}
    {ti_CALLS_7_1 : Nat}
    {do_CALLS_7 : Option Addr} {ns_CALLS_7 : Nat} {ss_CALLS_7 : Array (Option Value)}
    {ti_CALLS_8_1 : Nat}
    {do_CALLS_8 : Option Addr} {ns_CALLS_8 : Nat} {ss_CALLS_8 : Array (Option Value)}
    {ti_CALLS_9_1 : Nat}
    {do_CALLS_9 : Option Addr} {ns_CALLS_9 : Nat} {ss_CALLS_9 : Array (Option Value)}
    {ti_CALLS_10_1 : Nat}
    {do_CALLS_10 : Option Addr} {ns_CALLS_10 : Nat} {ss_CALLS_10 : Array (Option Value)}
    {ti_CALLS_11_1 : Nat}
    {do_CALLS_11 : Option Addr} {ns_CALLS_11 : Nat} {ss_CALLS_11 : Array (Option Value)}
    (gc_Act : PySem.W.nsIn K mainGlobals "Act" = some (some (.ref a_Act)))
    (gc_House : PySem.W.nsIn K mainGlobals "House" = some (some (.ref a_House)))
    (gd_Act_init : PySem.W.findIn K (.ref a_Act) "__init__" = some (some (.ref a_Act_init)))
    (if_Act_init : PySem.W.isFn K (.ref a_Act_init) = true)
    (lk_Act_init : K.lookup a_Act_init = some ⟨oc_Act_init, od_Act_init, .func (PySem.W.fnOf "__init__" "Act.__init__" (defArgs s_Act_init) (defBody s_Act_init) (defScope s_Act_init) .none kV_Act_init dc_Act_init pm_Act_init an_Act_init cd_Act_init ct_Act_init), sl_Act_init⟩)
    (co_Act_init : PySem.W.codeIn K cd_Act_init "Act.__init__" = true)
    (ke_Act_init : PySem.W.keepIn K (.ref a_Act_init) = true)
    (gd_Act_may_be_done : PySem.W.findIn K (.ref a_Act) "may_be_done" = some (some (.ref a_Act_may_be_done)))
    (if_Act_may_be_done : PySem.W.isFn K (.ref a_Act_may_be_done) = true)
    (lk_Act_may_be_done : K.lookup a_Act_may_be_done = some ⟨oc_Act_may_be_done, od_Act_may_be_done, .func (PySem.W.fnOf "may_be_done" "Act.may_be_done" (defArgs s_Act_may_be_done) (defBody s_Act_may_be_done) (defScope s_Act_may_be_done) .none kV_Act_may_be_done dc_Act_may_be_done pm_Act_may_be_done an_Act_may_be_done cd_Act_may_be_done ct_Act_may_be_done), sl_Act_may_be_done⟩)
    (co_Act_may_be_done : PySem.W.codeIn K cd_Act_may_be_done "Act.may_be_done" = true)
    (ke_Act_may_be_done : PySem.W.keepIn K (.ref a_Act_may_be_done) = true)
    (gd_Act_state_behind : PySem.W.findIn K (.ref a_Act) "state_behind" = some (some (.ref a_Act_state_behind)))
    (if_Act_state_behind : PySem.W.isFn K (.ref a_Act_state_behind) = true)
    (lk_Act_state_behind : K.lookup a_Act_state_behind = some ⟨oc_Act_state_behind, od_Act_state_behind, .func (PySem.W.fnOf "state_behind" "Act.state_behind" (defArgs s_Act_state_behind) (defBody s_Act_state_behind) (defScope s_Act_state_behind) .none kV_Act_state_behind dc_Act_state_behind pm_Act_state_behind an_Act_state_behind cd_Act_state_behind ct_Act_state_behind), sl_Act_state_behind⟩)
    (co_Act_state_behind : PySem.W.codeIn K cd_Act_state_behind "Act.state_behind" = true)
    (ke_Act_state_behind : PySem.W.keepIn K (.ref a_Act_state_behind) = true)
    (gd_states_along : PySem.W.nsIn K mainGlobals "states_along" = some (some (.ref a_states_along)))
    (lk_states_along : K.lookup a_states_along = some ⟨oc_states_along, od_states_along, .func (PySem.W.fnOf "states_along" "states_along" (defArgs s_states_along) (defBody s_states_along) (defScope s_states_along) .none kV_states_along dc_states_along pm_states_along an_states_along cd_states_along ct_states_along), sl_states_along⟩)
    (co_states_along : PySem.W.codeIn K cd_states_along "states_along" = true)
    (ke_states_along : PySem.W.keepIn K (.ref a_states_along) = true)
    (gd_needs_of : PySem.W.nsIn K mainGlobals "needs_of" = some (some (.ref a_needs_of)))
    (lk_needs_of : K.lookup a_needs_of = some ⟨oc_needs_of, od_needs_of, .func (PySem.W.fnOf "needs_of" "needs_of" (defArgs s_needs_of) (defBody s_needs_of) (defScope s_needs_of) .none kV_needs_of dc_needs_of pm_needs_of an_needs_of cd_needs_of ct_needs_of), sl_needs_of⟩)
    (co_needs_of : PySem.W.codeIn K cd_needs_of "needs_of" = true)
    (ke_needs_of : PySem.W.keepIn K (.ref a_needs_of) = true)
    (gd_cheapest_plan : PySem.W.nsIn K mainGlobals "cheapest_plan" = some (some (.ref a_cheapest_plan)))
    (lk_cheapest_plan : K.lookup a_cheapest_plan = some ⟨oc_cheapest_plan, od_cheapest_plan, .func (PySem.W.fnOf "cheapest_plan" "cheapest_plan" (defArgs s_cheapest_plan) (defBody s_cheapest_plan) (defScope s_cheapest_plan) .none kV_cheapest_plan dc_cheapest_plan pm_cheapest_plan an_cheapest_plan cd_cheapest_plan ct_cheapest_plan), sl_cheapest_plan⟩)
    (co_cheapest_plan : PySem.W.codeIn K cd_cheapest_plan "cheapest_plan" = true)
    (ke_cheapest_plan : PySem.W.keepIn K (.ref a_cheapest_plan) = true)
    (gd_dearer_ways : PySem.W.nsIn K mainGlobals "dearer_ways" = some (some (.ref a_dearer_ways)))
    (lk_dearer_ways : K.lookup a_dearer_ways = some ⟨oc_dearer_ways, od_dearer_ways, .func (PySem.W.fnOf "dearer_ways" "dearer_ways" (defArgs s_dearer_ways) (defBody s_dearer_ways) (defScope s_dearer_ways) .none kV_dearer_ways dc_dearer_ways pm_dearer_ways an_dearer_ways cd_dearer_ways ct_dearer_ways), sl_dearer_ways⟩)
    (co_dearer_ways : PySem.W.codeIn K cd_dearer_ways "dearer_ways" = true)
    (ke_dearer_ways : PySem.W.keepIn K (.ref a_dearer_ways) = true)
    (gd_nearest_plan : PySem.W.nsIn K mainGlobals "nearest_plan" = some (some (.ref a_nearest_plan)))
    (lk_nearest_plan : K.lookup a_nearest_plan = some ⟨oc_nearest_plan, od_nearest_plan, .func (PySem.W.fnOf "nearest_plan" "nearest_plan" (defArgs s_nearest_plan) (defBody s_nearest_plan) (defScope s_nearest_plan) .none kV_nearest_plan dc_nearest_plan pm_nearest_plan an_nearest_plan cd_nearest_plan ct_nearest_plan), sl_nearest_plan⟩)
    (co_nearest_plan : PySem.W.codeIn K cd_nearest_plan "nearest_plan" = true)
    (ke_nearest_plan : PySem.W.keepIn K (.ref a_nearest_plan) = true)
    (gd_layer_of : PySem.W.nsIn K mainGlobals "layer_of" = some (some (.ref a_layer_of)))
    (lk_layer_of : K.lookup a_layer_of = some ⟨oc_layer_of, od_layer_of, .func (PySem.W.fnOf "layer_of" "layer_of" (defArgs s_layer_of) (defBody s_layer_of) (defScope s_layer_of) .none kV_layer_of dc_layer_of pm_layer_of an_layer_of cd_layer_of ct_layer_of), sl_layer_of⟩)
    (co_layer_of : PySem.W.codeIn K cd_layer_of "layer_of" = true)
    (ke_layer_of : PySem.W.keepIn K (.ref a_layer_of) = true)
    (gd_best_ways : PySem.W.nsIn K mainGlobals "best_ways" = some (some (.ref a_best_ways)))
    (lk_best_ways : K.lookup a_best_ways = some ⟨oc_best_ways, od_best_ways, .func (PySem.W.fnOf "best_ways" "best_ways" (defArgs s_best_ways) (defBody s_best_ways) (defScope s_best_ways) .none kV_best_ways dc_best_ways pm_best_ways an_best_ways cd_best_ways ct_best_ways), sl_best_ways⟩)
    (co_best_ways : PySem.W.codeIn K cd_best_ways "best_ways" = true)
    (ke_best_ways : PySem.W.keepIn K (.ref a_best_ways) = true)
    (gd_one_farther : PySem.W.nsIn K mainGlobals "one_farther" = some (some (.ref a_one_farther)))
    (lk_one_farther : K.lookup a_one_farther = some ⟨oc_one_farther, od_one_farther, .func (PySem.W.fnOf "one_farther" "one_farther" (defArgs s_one_farther) (defBody s_one_farther) (defScope s_one_farther) .none kV_one_farther dc_one_farther pm_one_farther an_one_farther cd_one_farther ct_one_farther), sl_one_farther⟩)
    (co_one_farther : PySem.W.codeIn K cd_one_farther "one_farther" = true)
    (ke_one_farther : PySem.W.keepIn K (.ref a_one_farther) = true)
    (gd_ways_on : PySem.W.nsIn K mainGlobals "ways_on" = some (some (.ref a_ways_on)))
    (lk_ways_on : K.lookup a_ways_on = some ⟨oc_ways_on, od_ways_on, .func (PySem.W.fnOf "ways_on" "ways_on" (defArgs s_ways_on) (defBody s_ways_on) (defScope s_ways_on) .none kV_ways_on dc_ways_on pm_ways_on an_ways_on cd_ways_on ct_ways_on), sl_ways_on⟩)
    (co_ways_on : PySem.W.codeIn K cd_ways_on "ways_on" = true)
    (ke_ways_on : PySem.W.keepIn K (.ref a_ways_on) = true)
    (gd_all_there : PySem.W.nsIn K mainGlobals "all_there" = some (some (.ref a_all_there)))
    (lk_all_there : K.lookup a_all_there = some ⟨oc_all_there, od_all_there, .func (PySem.W.fnOf "all_there" "all_there" (defArgs s_all_there) (defBody s_all_there) (defScope s_all_there) .none kV_all_there dc_all_there pm_all_there an_all_there cd_all_there ct_all_there), sl_all_there⟩)
    (co_all_there : PySem.W.codeIn K cd_all_there "all_there" = true)
    (ke_all_there : PySem.W.keepIn K (.ref a_all_there) = true)
    (gd_House_init : PySem.W.findIn K (.ref a_House) "__init__" = some (some (.ref a_House_init)))
    (if_House_init : PySem.W.isFn K (.ref a_House_init) = true)
    (lk_House_init : K.lookup a_House_init = some ⟨oc_House_init, od_House_init, .func (PySem.W.fnOf "__init__" "House.__init__" (defArgs s_House_init) (defBody s_House_init) (defScope s_House_init) .none kV_House_init dc_House_init pm_House_init an_House_init cd_House_init ct_House_init), sl_House_init⟩)
    (co_House_init : PySem.W.codeIn K cd_House_init "House.__init__" = true)
    (ke_House_init : PySem.W.keepIn K (.ref a_House_init) = true)
    (gd_House_set_anew : PySem.W.findIn K (.ref a_House) "set_anew" = some (some (.ref a_House_set_anew)))
    (if_House_set_anew : PySem.W.isFn K (.ref a_House_set_anew) = true)
    (lk_House_set_anew : K.lookup a_House_set_anew = some ⟨oc_House_set_anew, od_House_set_anew, .func (PySem.W.fnOf "set_anew" "House.set_anew" (defArgs s_House_set_anew) (defBody s_House_set_anew) (defScope s_House_set_anew) .none kV_House_set_anew dc_House_set_anew pm_House_set_anew an_House_set_anew cd_House_set_anew ct_House_set_anew), sl_House_set_anew⟩)
    (co_House_set_anew : PySem.W.codeIn K cd_House_set_anew "House.set_anew" = true)
    (ke_House_set_anew : PySem.W.keepIn K (.ref a_House_set_anew) = true)
    (gd_House_states_of : PySem.W.findIn K (.ref a_House) "states_of" = some (some (.ref a_House_states_of)))
    (if_House_states_of : PySem.W.isFn K (.ref a_House_states_of) = true)
    (lk_House_states_of : K.lookup a_House_states_of = some ⟨oc_House_states_of, od_House_states_of, .func (PySem.W.fnOf "states_of" "House.states_of" (defArgs s_House_states_of) (defBody s_House_states_of) (defScope s_House_states_of) .none kV_House_states_of dc_House_states_of pm_House_states_of an_House_states_of cd_House_states_of ct_House_states_of), sl_House_states_of⟩)
    (co_House_states_of : PySem.W.codeIn K cd_House_states_of "House.states_of" = true)
    (ke_House_states_of : PySem.W.keepIn K (.ref a_House_states_of) = true)
    (gd_House_rest_does : PySem.W.findIn K (.ref a_House) "rest_does" = some (some (.ref a_House_rest_does)))
    (if_House_rest_does : PySem.W.isFn K (.ref a_House_rest_does) = true)
    (lk_House_rest_does : K.lookup a_House_rest_does = some ⟨oc_House_rest_does, od_House_rest_does, .func (PySem.W.fnOf "rest_does" "House.rest_does" (defArgs s_House_rest_does) (defBody s_House_rest_does) (defScope s_House_rest_does) .none kV_House_rest_does dc_House_rest_does pm_House_rest_does an_House_rest_does cd_House_rest_does ct_House_rest_does), sl_House_rest_does⟩)
    (co_House_rest_does : PySem.W.codeIn K cd_House_rest_does "House.rest_does" = true)
    (ke_House_rest_does : PySem.W.keepIn K (.ref a_House_rest_does) = true)
    (gd_answer_begins : PySem.W.nsIn K mainGlobals "answer_begins" = some (some (.ref a_answer_begins)))
    (lk_answer_begins : K.lookup a_answer_begins = some ⟨oc_answer_begins, od_answer_begins, .func (PySem.W.fnOf "answer_begins" "answer_begins" (defArgs s_answer_begins) (defBody s_answer_begins) (defScope s_answer_begins) .none kV_answer_begins dc_answer_begins pm_answer_begins an_answer_begins cd_answer_begins ct_answer_begins), sl_answer_begins⟩)
    (co_answer_begins : PySem.W.codeIn K cd_answer_begins "answer_begins" = true)
    (ke_answer_begins : PySem.W.keepIn K (.ref a_answer_begins) = true)
    (gd_is_act : PySem.W.nsIn K mainGlobals "is_act" = some (some (.ref a_is_act)))
    (lk_is_act : K.lookup a_is_act = some ⟨oc_is_act, od_is_act, .func (PySem.W.fnOf "is_act" "is_act" (defArgs s_is_act) (defBody s_is_act) (defScope s_is_act) .none kV_is_act dc_is_act pm_is_act an_is_act cd_is_act ct_is_act), sl_is_act⟩)
    (co_is_act : PySem.W.codeIn K cd_is_act "is_act" = true)
    (ke_is_act : PySem.W.keepIn K (.ref a_is_act) = true)
    (gd_answer_act : PySem.W.nsIn K mainGlobals "answer_act" = some (some (.ref a_answer_act)))
    (lk_answer_act : K.lookup a_answer_act = some ⟨oc_answer_act, od_answer_act, .func (PySem.W.fnOf "answer_act" "answer_act" (defArgs s_answer_act) (defBody s_answer_act) (defScope s_answer_act) .none kV_answer_act dc_answer_act pm_answer_act an_answer_act cd_answer_act ct_answer_act), sl_answer_act⟩)
    (co_answer_act : PySem.W.codeIn K cd_answer_act "answer_act" = true)
    (ke_answer_act : PySem.W.keepIn K (.ref a_answer_act) = true)
    (gd_answer_plan : PySem.W.nsIn K mainGlobals "answer_plan" = some (some (.ref a_answer_plan)))
    (lk_answer_plan : K.lookup a_answer_plan = some ⟨oc_answer_plan, od_answer_plan, .func (PySem.W.fnOf "answer_plan" "answer_plan" (defArgs s_answer_plan) (defBody s_answer_plan) (defScope s_answer_plan) .none kV_answer_plan dc_answer_plan pm_answer_plan an_answer_plan cd_answer_plan ct_answer_plan), sl_answer_plan⟩)
    (co_answer_plan : PySem.W.codeIn K cd_answer_plan "answer_plan" = true)
    (ke_answer_plan : PySem.W.keepIn K (.ref a_answer_plan) = true)
    (gd_answer_goes : PySem.W.nsIn K mainGlobals "answer_goes" = some (some (.ref a_answer_goes)))
    (lk_answer_goes : K.lookup a_answer_goes = some ⟨oc_answer_goes, od_answer_goes, .func (PySem.W.fnOf "answer_goes" "answer_goes" (defArgs s_answer_goes) (defBody s_answer_goes) (defScope s_answer_goes) .none kV_answer_goes dc_answer_goes pm_answer_goes an_answer_goes cd_answer_goes ct_answer_goes), sl_answer_goes⟩)
    (co_answer_goes : PySem.W.codeIn K cd_answer_goes "answer_goes" = true)
    (ke_answer_goes : PySem.W.keepIn K (.ref a_answer_goes) = true)
    (gd_answer_happens : PySem.W.nsIn K mainGlobals "answer_happens" = some (some (.ref a_answer_happens)))
    (lk_answer_happens : K.lookup a_answer_happens = some ⟨oc_answer_happens, od_answer_happens, .func (PySem.W.fnOf "answer_happens" "answer_happens" (defArgs s_answer_happens) (defBody s_answer_happens) (defScope s_answer_happens) .none kV_answer_happens dc_answer_happens pm_answer_happens an_answer_happens cd_answer_happens ct_answer_happens), sl_answer_happens⟩)
    (co_answer_happens : PySem.W.codeIn K cd_answer_happens "answer_happens" = true)
    (ke_answer_happens : PySem.W.keepIn K (.ref a_answer_happens) = true)
    (gd_answer_wants : PySem.W.nsIn K mainGlobals "answer_wants" = some (some (.ref a_answer_wants)))
    (lk_answer_wants : K.lookup a_answer_wants = some ⟨oc_answer_wants, od_answer_wants, .func (PySem.W.fnOf "answer_wants" "answer_wants" (defArgs s_answer_wants) (defBody s_answer_wants) (defScope s_answer_wants) .none kV_answer_wants dc_answer_wants pm_answer_wants an_answer_wants cd_answer_wants ct_answer_wants), sl_answer_wants⟩)
    (co_answer_wants : PySem.W.codeIn K cd_answer_wants "answer_wants" = true)
    (ke_answer_wants : PySem.W.keepIn K (.ref a_answer_wants) = true)
    (gd_answer_still : PySem.W.nsIn K mainGlobals "answer_still" = some (some (.ref a_answer_still)))
    (lk_answer_still : K.lookup a_answer_still = some ⟨oc_answer_still, od_answer_still, .func (PySem.W.fnOf "answer_still" "answer_still" (defArgs s_answer_still) (defBody s_answer_still) (defScope s_answer_still) .none kV_answer_still dc_answer_still pm_answer_still an_answer_still cd_answer_still ct_answer_still), sl_answer_still⟩)
    (co_answer_still : PySem.W.codeIn K cd_answer_still "answer_still" = true)
    (ke_answer_still : PySem.W.keepIn K (.ref a_answer_still) = true)
    (gd_answer_needs : PySem.W.nsIn K mainGlobals "answer_needs" = some (some (.ref a_answer_needs)))
    (lk_answer_needs : K.lookup a_answer_needs = some ⟨oc_answer_needs, od_answer_needs, .func (PySem.W.fnOf "answer_needs" "answer_needs" (defArgs s_answer_needs) (defBody s_answer_needs) (defScope s_answer_needs) .none kV_answer_needs dc_answer_needs pm_answer_needs an_answer_needs cd_answer_needs ct_answer_needs), sl_answer_needs⟩)
    (co_answer_needs : PySem.W.codeIn K cd_answer_needs "answer_needs" = true)
    (ke_answer_needs : PySem.W.keepIn K (.ref a_answer_needs) = true)
    (gd_answer_near : PySem.W.nsIn K mainGlobals "answer_near" = some (some (.ref a_answer_near)))
    (lk_answer_near : K.lookup a_answer_near = some ⟨oc_answer_near, od_answer_near, .func (PySem.W.fnOf "answer_near" "answer_near" (defArgs s_answer_near) (defBody s_answer_near) (defScope s_answer_near) .none kV_answer_near dc_answer_near pm_answer_near an_answer_near cd_answer_near ct_answer_near), sl_answer_near⟩)
    (co_answer_near : PySem.W.codeIn K cd_answer_near "answer_near" = true)
    (ke_answer_near : PySem.W.keepIn K (.ref a_answer_near) = true)
    (gd_answer_mend : PySem.W.nsIn K mainGlobals "answer_mend" = some (some (.ref a_answer_mend)))
    (lk_answer_mend : K.lookup a_answer_mend = some ⟨oc_answer_mend, od_answer_mend, .func (PySem.W.fnOf "answer_mend" "answer_mend" (defArgs s_answer_mend) (defBody s_answer_mend) (defScope s_answer_mend) .none kV_answer_mend dc_answer_mend pm_answer_mend an_answer_mend cd_answer_mend ct_answer_mend), sl_answer_mend⟩)
    (co_answer_mend : PySem.W.codeIn K cd_answer_mend "answer_mend" = true)
    (ke_answer_mend : PySem.W.keepIn K (.ref a_answer_mend) = true)
    (gd_answer_fresh : PySem.W.nsIn K mainGlobals "answer_fresh" = some (some (.ref a_answer_fresh)))
    (lk_answer_fresh : K.lookup a_answer_fresh = some ⟨oc_answer_fresh, od_answer_fresh, .func (PySem.W.fnOf "answer_fresh" "answer_fresh" (defArgs s_answer_fresh) (defBody s_answer_fresh) (defScope s_answer_fresh) .none kV_answer_fresh dc_answer_fresh pm_answer_fresh an_answer_fresh cd_answer_fresh ct_answer_fresh), sl_answer_fresh⟩)
    (co_answer_fresh : PySem.W.codeIn K cd_answer_fresh "answer_fresh" = true)
    (ke_answer_fresh : PySem.W.keepIn K (.ref a_answer_fresh) = true)
    (gd_answer_did : PySem.W.nsIn K mainGlobals "answer_did" = some (some (.ref a_answer_did)))
    (lk_answer_did : K.lookup a_answer_did = some ⟨oc_answer_did, od_answer_did, .func (PySem.W.fnOf "answer_did" "answer_did" (defArgs s_answer_did) (defBody s_answer_did) (defScope s_answer_did) .none kV_answer_did dc_answer_did pm_answer_did an_answer_did cd_answer_did ct_answer_did), sl_answer_did⟩)
    (co_answer_did : PySem.W.codeIn K cd_answer_did "answer_did" = true)
    (ke_answer_did : PySem.W.keepIn K (.ref a_answer_did) = true)
    (gd_answers : PySem.W.nsIn K mainGlobals "answers" = some (some (.ref a_answers)))
    (lk_answers : K.lookup a_answers = some ⟨oc_answers, od_answers, .func (PySem.W.fnOf "answers" "answers" (defArgs s_answers) (defBody s_answers) (defScope s_answers) .none kV_answers dc_answers pm_answers an_answers cd_answers ct_answers), sl_answers⟩)
    (co_answers : PySem.W.codeIn K cd_answers "answers" = true)
    (ke_answers : PySem.W.keepIn K (.ref a_answers) = true)
    (pg_Act : PySem.W.plainGet K a_Act Str.empty = true)
    (hd_Act : PySem.W.hasDictIn K a_Act = true)
    (po_Act : PySem.W.plainOver K a_Act = true)
    (sa_Act : PySem.W.findIn K (.ref a_Act) "__setattr__" = some (some (.builtin "object.__setattr__")))
    (mk_Act : PySem.W.makesIn K a_Act = true)
    (kc_Act : PySem.W.keepIn K (.ref a_Act) = true)
    (na_Act_needed : PySem.W.findIn K (.ref a_Act) "needed" = some none)
    (na_Act_barred : PySem.W.findIn K (.ref a_Act) "barred" = some none)
    (na_Act_brought : PySem.W.findIn K (.ref a_Act) "brought" = some none)
    (na_Act_taken : PySem.W.findIn K (.ref a_Act) "taken" = some none)
    (na_Act_cost : PySem.W.findIn K (.ref a_Act) "cost" = some none)
    (pg_House : PySem.W.plainGet K a_House Str.empty = true)
    (hd_House : PySem.W.hasDictIn K a_House = true)
    (po_House : PySem.W.plainOver K a_House = true)
    (sa_House : PySem.W.findIn K (.ref a_House) "__setattr__" = some (some (.builtin "object.__setattr__")))
    (mk_House : PySem.W.makesIn K a_House = true)
    (kc_House : PySem.W.keepIn K (.ref a_House) = true)
    (na_House_facts : PySem.W.findIn K (.ref a_House) "facts" = some none)
    (na_House_state : PySem.W.findIn K (.ref a_House) "state" = some none)
    (na_House_wanted : PySem.W.findIn K (.ref a_House) "wanted" = some none)
    (na_House_acts : PySem.W.findIn K (.ref a_House) "acts" = some none)
    (na_House_rest : PySem.W.findIn K (.ref a_House) "rest" = some none)
    (na_House_done : PySem.W.findIn K (.ref a_House) "done" = some none)
    (gk_WRONG : PySem.W.nsIn K mainGlobals "WRONG" = some (some (.int (-1) t_WRONG)))
    (gk_NO_PLAN : PySem.W.nsIn K mainGlobals "NO_PLAN" = some (some (.int (-6) t_NO_PLAN)))
    (gk_FULL : PySem.W.nsIn K mainGlobals "FULL" = some (some (.int (-7) t_FULL)))
    (gk_MOST_FACTS : PySem.W.nsIn K mainGlobals "MOST_FACTS" = some (some (.int (5) t_MOST_FACTS)))
    (gk_MOST_ACTS : PySem.W.nsIn K mainGlobals "MOST_ACTS" = some (some (.int (8) t_MOST_ACTS)))
    (gk_MOST_PLANNED : PySem.W.nsIn K mainGlobals "MOST_PLANNED" = some (some (.int (8) t_MOST_PLANNED)))
    (gk_MOST_COST : PySem.W.nsIn K mainGlobals "MOST_COST" = some (some (.int (1000) t_MOST_COST)))
    (gk_ROW_OF_ACT : PySem.W.nsIn K mainGlobals "ROW_OF_ACT" = some (some (.int (5) t_ROW_OF_ACT)))
    (gk_CALLS : PySem.W.nsIn K mainGlobals "CALLS" = some (some (.ref a_CALLS)))
    (tu_CALLS : K.lookup a_CALLS = some ⟨.type "tuple", do_CALLS, .seq (Array.mk [.ref a_CALLS_0, .ref a_CALLS_1, .ref a_CALLS_2, .ref a_CALLS_3, .ref a_CALLS_4, .ref a_CALLS_5, .ref a_CALLS_6, .ref a_CALLS_7, .ref a_CALLS_8, .ref a_CALLS_9, .ref a_CALLS_10, .ref a_CALLS_11]) ns_CALLS, ss_CALLS⟩)
    (tu_CALLS_0 : K.lookup a_CALLS_0 = some ⟨.type "tuple", do_CALLS_0, .seq (Array.mk [.ref a_answer_begins, .int 3 ti_CALLS_0_1]) ns_CALLS_0, ss_CALLS_0⟩)
    (tu_CALLS_1 : K.lookup a_CALLS_1 = some ⟨.type "tuple", do_CALLS_1, .seq (Array.mk [.ref a_answer_act, .none]) ns_CALLS_1, ss_CALLS_1⟩)
    (tu_CALLS_2 : K.lookup a_CALLS_2 = some ⟨.type "tuple", do_CALLS_2, .seq (Array.mk [.ref a_answer_plan, .none]) ns_CALLS_2, ss_CALLS_2⟩)
    (tu_CALLS_3 : K.lookup a_CALLS_3 = some ⟨.type "tuple", do_CALLS_3, .seq (Array.mk [.ref a_answer_goes, .int 1 ti_CALLS_3_1]) ns_CALLS_3, ss_CALLS_3⟩)
    (tu_CALLS_4 : K.lookup a_CALLS_4 = some ⟨.type "tuple", do_CALLS_4, .seq (Array.mk [.ref a_answer_happens, .int 2 ti_CALLS_4_1]) ns_CALLS_4, ss_CALLS_4⟩)
    (tu_CALLS_5 : K.lookup a_CALLS_5 = some ⟨.type "tuple", do_CALLS_5, .seq (Array.mk [.ref a_answer_wants, .int 1 ti_CALLS_5_1]) ns_CALLS_5, ss_CALLS_5⟩)
    (tu_CALLS_6 : K.lookup a_CALLS_6 = some ⟨.type "tuple", do_CALLS_6, .seq (Array.mk [.ref a_answer_still, .int 0 ti_CALLS_6_1]) ns_CALLS_6, ss_CALLS_6⟩)
    (tu_CALLS_7 : K.lookup a_CALLS_7 = some ⟨.type "tuple", do_CALLS_7, .seq (Array.mk [.ref a_answer_needs, .int 0 ti_CALLS_7_1]) ns_CALLS_7, ss_CALLS_7⟩)
    (tu_CALLS_8 : K.lookup a_CALLS_8 = some ⟨.type "tuple", do_CALLS_8, .seq (Array.mk [.ref a_answer_near, .int 0 ti_CALLS_8_1]) ns_CALLS_8, ss_CALLS_8⟩)
    (tu_CALLS_9 : K.lookup a_CALLS_9 = some ⟨.type "tuple", do_CALLS_9, .seq (Array.mk [.ref a_answer_mend, .int 0 ti_CALLS_9_1]) ns_CALLS_9, ss_CALLS_9⟩)
    (tu_CALLS_10 : K.lookup a_CALLS_10 = some ⟨.type "tuple", do_CALLS_10, .seq (Array.mk [.ref a_answer_fresh, .int 0 ti_CALLS_10_1]) ns_CALLS_10, ss_CALLS_10⟩)
    (tu_CALLS_11 : K.lookup a_CALLS_11 = some ⟨.type "tuple", do_CALLS_11, .seq (Array.mk [.ref a_answer_did, .int 0 ti_CALLS_11_1]) ns_CALLS_11, ss_CALLS_11⟩)
    (nb_all : PySem.W.nsIn K mainGlobals "all" = some none)
    (nb_any : PySem.W.nsIn K mainGlobals "any" = some none)
    (nb_enumerate : PySem.W.nsIn K mainGlobals "enumerate" = some none)
    (nb_len : PySem.W.nsIn K mainGlobals "len" = some none)
    (nb_list : PySem.W.nsIn K mainGlobals "list" = some none)
    (nb_min : PySem.W.nsIn K mainGlobals "min" = some none)
    (nb_range : PySem.W.nsIn K mainGlobals "range" = some none)
    (nb_reversed : PySem.W.nsIn K mainGlobals "reversed" = some none)
    (nb_sum : PySem.W.nsIn K mainGlobals "sum" = some none)
    : Txt K mg ⟨a_Act, a_House, a_Act_init, a_Act_may_be_done, a_Act_state_behind, a_states_along, a_needs_of, a_cheapest_plan, a_dearer_ways, a_nearest_plan, a_layer_of, a_best_ways, a_one_farther, a_ways_on, a_all_there, a_House_init, a_House_set_anew, a_House_states_of, a_House_rest_does, a_answer_begins, a_is_act, a_answer_act, a_answer_plan, a_answer_goes, a_answer_happens, a_answer_wants, a_answer_still, a_answer_needs, a_answer_near, a_answer_mend, a_answer_fresh, a_answer_did, a_answers, a_CALLS_0, a_CALLS_1, a_CALLS_2, a_CALLS_3, a_CALLS_4, a_CALLS_5, a_CALLS_6, a_CALLS_7, a_CALLS_8, a_CALLS_9, a_CALLS_10, a_CALLS_11, a_CALLS⟩ := by
  have F_Act_init := fun_mk (st := s_Act_init) lk_Act_init co_Act_init ke_Act_init
  have B_Act_init := F_Act_init.binds (ps := ["self", "row"]) fun _ _ _ _ _ _ us hl => match us, hl with | [_, _], _ => rfl
  have F_Act_may_be_done := fun_mk (st := s_Act_may_be_done) lk_Act_may_be_done co_Act_may_be_done ke_Act_may_be_done
  have B_Act_may_be_done := F_Act_may_be_done.binds (ps := ["self", "state"]) fun _ _ _ _ _ _ us hl => match us, hl with | [_, _], _ => rfl
  have F_Act_state_behind := fun_mk (st := s_Act_state_behind) lk_Act_state_behind co_Act_state_behind ke_Act_state_behind
  have B_Act_state_behind := F_Act_state_behind.binds (ps := ["self", "state"]) fun _ _ _ _ _ _ us hl => match us, hl with | [_, _], _ => rfl
  have F_states_along := fun_mk (st := s_states_along) lk_states_along co_states_along ke_states_along
  have B_states_along := F_states_along.binds (ps := ["acts", "state"]) fun _ _ _ _ _ _ us hl => match us, hl with | [_, _], _ => rfl
  have F_needs_of := fun_mk (st := s_needs_of) lk_needs_of co_needs_of ke_needs_of
  have B_needs_of := F_needs_of.binds (ps := ["acts", "wanted"]) fun _ _ _ _ _ _ us hl => match us, hl with | [_, _], _ => rfl
  have F_cheapest_plan := fun_mk (st := s_cheapest_plan) lk_cheapest_plan co_cheapest_plan ke_cheapest_plan
  have B_cheapest_plan := F_cheapest_plan.binds (ps := ["acts", "state", "wanted"]) fun _ _ _ _ _ _ us hl => match us, hl with | [_, _, _], _ => rfl
  have F_dearer_ways := fun_mk (st := s_dearer_ways) lk_dearer_ways co_dearer_ways ke_dearer_ways
  have B_dearer_ways := F_dearer_ways.binds (ps := ["acts", "way"]) fun _ _ _ _ _ _ us hl => match us, hl with | [_, _], _ => rfl
  have F_nearest_plan := fun_mk (st := s_nearest_plan) lk_nearest_plan co_nearest_plan ke_nearest_plan
  have B_nearest_plan := F_nearest_plan.binds (ps := ["acts", "rest", "state", "wanted"]) fun _ _ _ _ _ _ us hl => match us, hl with | [_, _, _, _], _ => rfl
  have F_layer_of := fun_mk (st := s_layer_of) lk_layer_of co_layer_of ke_layer_of
  have B_layer_of := F_layer_of.binds (ps := ["acts", "rest", "found", "passed"]) fun _ _ _ _ _ _ us hl => match us, hl with | [_, _, _, _], _ => rfl
  have F_best_ways := fun_mk (st := s_best_ways) lk_best_ways co_best_ways ke_best_ways
  have B_best_ways := F_best_ways.binds (ps := ["pairs", "passed"]) fun _ _ _ _ _ _ us hl => match us, hl with | [_, _], _ => rfl
  have F_one_farther := fun_mk (st := s_one_farther) lk_one_farther co_one_farther ke_one_farther
  have B_one_farther := F_one_farther.binds (ps := ["acts", "layer"]) fun _ _ _ _ _ _ us hl => match us, hl with | [_, _], _ => rfl
  have F_ways_on := fun_mk (st := s_ways_on) lk_ways_on co_ways_on ke_ways_on
  have B_ways_on := F_ways_on.binds (ps := ["acts", "number", "ways"]) fun _ _ _ _ _ _ us hl => match us, hl with | [_, _, _], _ => rfl
  have F_all_there := fun_mk (st := s_all_there) lk_all_there co_all_there ke_all_there
  have B_all_there := F_all_there.binds (ps := ["chosen", "facts"]) fun _ _ _ _ _ _ us hl => match us, hl with | [_, _], _ => rfl
  have F_House_init := fun_mk (st := s_House_init) lk_House_init co_House_init ke_House_init
  have B_House_init := F_House_init.binds (ps := ["self"]) fun _ _ _ _ _ _ us hl => match us, hl with | [_], _ => rfl
  have F_House_set_anew := fun_mk (st := s_House_set_anew) lk_House_set_anew co_House_set_anew ke_House_set_anew
  have B_House_set_anew := F_House_set_anew.binds (ps := ["self", "facts", "state", "wanted"]) fun _ _ _ _ _ _ us hl => match us, hl with | [_, _, _, _], _ => rfl
  have F_House_states_of := fun_mk (st := s_House_states_of) lk_House_states_of co_House_states_of ke_House_states_of
  have B_House_states_of := F_House_states_of.binds (ps := ["self", "numbers"]) fun _ _ _ _ _ _ us hl => match us, hl with | [_, _], _ => rfl
  have F_House_rest_does := fun_mk (st := s_House_rest_does) lk_House_rest_does co_House_rest_does ke_House_rest_does
  have B_House_rest_does := F_House_rest_does.binds (ps := ["self"]) fun _ _ _ _ _ _ us hl => match us, hl with | [_], _ => rfl
  have F_answer_begins := fun_mk (st := s_answer_begins) lk_answer_begins co_answer_begins ke_answer_begins
  have B_answer_begins := F_answer_begins.binds (ps := ["house", "given"]) fun _ _ _ _ _ _ us hl => match us, hl with | [_, _], _ => rfl
  have F_is_act := fun_mk (st := s_is_act) lk_is_act co_is_act ke_is_act
  have B_is_act := F_is_act.binds (ps := ["row", "facts"]) fun _ _ _ _ _ _ us hl => match us, hl with | [_, _], _ => rfl
  have F_answer_act := fun_mk (st := s_answer_act) lk_answer_act co_answer_act ke_answer_act
  have B_answer_act := F_answer_act.binds (ps := ["house", "row"]) fun _ _ _ _ _ _ us hl => match us, hl with | [_, _], _ => rfl
  have F_answer_plan := fun_mk (st := s_answer_plan) lk_answer_plan co_answer_plan ke_answer_plan
  have B_answer_plan := F_answer_plan.binds (ps := ["house", "numbers"]) fun _ _ _ _ _ _ us hl => match us, hl with | [_, _], _ => rfl
  have F_answer_goes := fun_mk (st := s_answer_goes) lk_answer_goes co_answer_goes ke_answer_goes
  have B_answer_goes := F_answer_goes.binds (ps := ["house", "given"]) fun _ _ _ _ _ _ us hl => match us, hl with | [_, _], _ => rfl
  have F_answer_happens := fun_mk (st := s_answer_happens) lk_answer_happens co_answer_happens ke_answer_happens
  have B_answer_happens := F_answer_happens.binds (ps := ["house", "given"]) fun _ _ _ _ _ _ us hl => match us, hl with | [_, _], _ => rfl
  have F_answer_wants := fun_mk (st := s_answer_wants) lk_answer_wants co_answer_wants ke_answer_wants
  have B_answer_wants := F_answer_wants.binds (ps := ["house", "given"]) fun _ _ _ _ _ _ us hl => match us, hl with | [_, _], _ => rfl
  have F_answer_still := fun_mk (st := s_answer_still) lk_answer_still co_answer_still ke_answer_still
  have B_answer_still := F_answer_still.binds (ps := ["house", "given"]) fun _ _ _ _ _ _ us hl => match us, hl with | [_, _], _ => rfl
  have F_answer_needs := fun_mk (st := s_answer_needs) lk_answer_needs co_answer_needs ke_answer_needs
  have B_answer_needs := F_answer_needs.binds (ps := ["house", "given"]) fun _ _ _ _ _ _ us hl => match us, hl with | [_, _], _ => rfl
  have F_answer_near := fun_mk (st := s_answer_near) lk_answer_near co_answer_near ke_answer_near
  have B_answer_near := F_answer_near.binds (ps := ["house", "given"]) fun _ _ _ _ _ _ us hl => match us, hl with | [_, _], _ => rfl
  have F_answer_mend := fun_mk (st := s_answer_mend) lk_answer_mend co_answer_mend ke_answer_mend
  have B_answer_mend := F_answer_mend.binds (ps := ["house", "given"]) fun _ _ _ _ _ _ us hl => match us, hl with | [_, _], _ => rfl
  have F_answer_fresh := fun_mk (st := s_answer_fresh) lk_answer_fresh co_answer_fresh ke_answer_fresh
  have B_answer_fresh := F_answer_fresh.binds (ps := ["house", "given"]) fun _ _ _ _ _ _ us hl => match us, hl with | [_, _], _ => rfl
  have F_answer_did := fun_mk (st := s_answer_did) lk_answer_did co_answer_did ke_answer_did
  have B_answer_did := F_answer_did.binds (ps := ["house", "given"]) fun _ _ _ _ _ _ us hl => match us, hl with | [_, _], _ => rfl
  have F_answers := fun_mk (st := s_answers) lk_answers co_answers ke_answers
  have B_answers := F_answers.binds (ps := ["calls"]) fun _ _ _ _ _ _ us hl => match us, hl with | [_], _ => rfl
  exact ⟨⟨pg_Act, hd_Act, po_Act, sa_Act⟩,
    PySem.W.mg_of X G gc_Act,
    ⟨mk_Act, gd_Act_init, if_Act_init, kc_Act⟩,
    na_Act_needed,
    na_Act_barred,
    na_Act_brought,
    na_Act_taken,
    na_Act_cost,
    ⟨pg_House, hd_House, po_House, sa_House⟩,
    PySem.W.mg_of X G gc_House,
    ⟨mk_House, gd_House_init, if_House_init, kc_House⟩,
    na_House_facts,
    na_House_state,
    na_House_wanted,
    na_House_acts,
    na_House_rest,
    na_House_done,
    ⟨_, F_Act_init, B_Act_init, fun s us hu => match us, hu with | [_, _], _ => .of_eq rfl⟩,
    ⟨_, F_Act_may_be_done, B_Act_may_be_done, fun s us hu => match us, hu with | [_, _], _ => .of_eq rfl⟩,
    ⟨gd_Act_may_be_done, if_Act_may_be_done, ke_Act_may_be_done⟩,
    ⟨_, F_Act_state_behind, B_Act_state_behind, fun s us hu => match us, hu with | [_, _], _ => .of_eq rfl⟩,
    ⟨gd_Act_state_behind, if_Act_state_behind, ke_Act_state_behind⟩,
    ⟨_, F_states_along, B_states_along, fun s us hu => match us, hu with | [_, _], _ => .of_eq rfl⟩,
    PySem.W.mg_of X G gd_states_along,
    ke_states_along,
    ⟨_, F_needs_of, B_needs_of, fun s us hu => match us, hu with | [_, _], _ => .of_eq rfl⟩,
    PySem.W.mg_of X G gd_needs_of,
    ke_needs_of,
    ⟨_, F_cheapest_plan, B_cheapest_plan, fun s us hu => match us, hu with | [_, _, _], _ => .of_eq rfl⟩,
    PySem.W.mg_of X G gd_cheapest_plan,
    ke_cheapest_plan,
    ⟨_, F_dearer_ways, B_dearer_ways, fun s us hu => match us, hu with | [_, _], _ => .of_eq rfl⟩,
    PySem.W.mg_of X G gd_dearer_ways,
    ke_dearer_ways,
    ⟨_, F_nearest_plan, B_nearest_plan, fun s us hu => match us, hu with | [_, _, _, _], _ => .of_eq rfl⟩,
    PySem.W.mg_of X G gd_nearest_plan,
    ke_nearest_plan,
    ⟨_, F_layer_of, B_layer_of, fun s us hu => match us, hu with | [_, _, _, _], _ => .of_eq rfl⟩,
    PySem.W.mg_of X G gd_layer_of,
    ke_layer_of,
    ⟨_, F_best_ways, B_best_ways, fun s us hu => match us, hu with | [_, _], _ => .of_eq rfl⟩,
    PySem.W.mg_of X G gd_best_ways,
    ke_best_ways,
    ⟨_, F_one_farther, B_one_farther, fun s us hu => match us, hu with | [_, _], _ => .of_eq rfl⟩,
    PySem.W.mg_of X G gd_one_farther,
    ke_one_farther,
    ⟨_, F_ways_on, B_ways_on, fun s us hu => match us, hu with | [_, _, _], _ => .of_eq rfl⟩,
    PySem.W.mg_of X G gd_ways_on,
    ke_ways_on,
    ⟨_, F_all_there, B_all_there, fun s us hu => match us, hu with | [_, _], _ => .of_eq rfl⟩,
    PySem.W.mg_of X G gd_all_there,
    ke_all_there,
    ⟨_, F_House_init, B_House_init, fun s us hu => match us, hu with | [_], _ => .of_eq rfl⟩,
    ⟨_, F_House_set_anew, B_House_set_anew, fun s us hu => match us, hu with | [_, _, _, _], _ => .of_eq rfl⟩,
    ⟨gd_House_set_anew, if_House_set_anew, ke_House_set_anew⟩,
    ⟨_, F_House_states_of, B_House_states_of, fun s us hu => match us, hu with | [_, _], _ => .of_eq rfl⟩,
    ⟨gd_House_states_of, if_House_states_of, ke_House_states_of⟩,
    ⟨_, F_House_rest_does, B_House_rest_does, fun s us hu => match us, hu with | [_], _ => .of_eq rfl⟩,
    ⟨gd_House_rest_does, if_House_rest_does, ke_House_rest_does⟩,
    ⟨_, F_answer_begins, B_answer_begins, fun s us hu => match us, hu with | [_, _], _ => .of_eq rfl⟩,
    PySem.W.mg_of X G gd_answer_begins,
    ke_answer_begins,
    ⟨_, F_is_act, B_is_act, fun s us hu => match us, hu with | [_, _], _ => .of_eq rfl⟩,
    PySem.W.mg_of X G gd_is_act,
    ke_is_act,
    ⟨_, F_answer_act, B_answer_act, fun s us hu => match us, hu with | [_, _], _ => .of_eq rfl⟩,
    PySem.W.mg_of X G gd_answer_act,
    ke_answer_act,
    ⟨_, F_answer_plan, B_answer_plan, fun s us hu => match us, hu with | [_, _], _ => .of_eq rfl⟩,
    PySem.W.mg_of X G gd_answer_plan,
    ke_answer_plan,
    ⟨_, F_answer_goes, B_answer_goes, fun s us hu => match us, hu with | [_, _], _ => .of_eq rfl⟩,
    PySem.W.mg_of X G gd_answer_goes,
    ke_answer_goes,
    ⟨_, F_answer_happens, B_answer_happens, fun s us hu => match us, hu with | [_, _], _ => .of_eq rfl⟩,
    PySem.W.mg_of X G gd_answer_happens,
    ke_answer_happens,
    ⟨_, F_answer_wants, B_answer_wants, fun s us hu => match us, hu with | [_, _], _ => .of_eq rfl⟩,
    PySem.W.mg_of X G gd_answer_wants,
    ke_answer_wants,
    ⟨_, F_answer_still, B_answer_still, fun s us hu => match us, hu with | [_, _], _ => .of_eq rfl⟩,
    PySem.W.mg_of X G gd_answer_still,
    ke_answer_still,
    ⟨_, F_answer_needs, B_answer_needs, fun s us hu => match us, hu with | [_, _], _ => .of_eq rfl⟩,
    PySem.W.mg_of X G gd_answer_needs,
    ke_answer_needs,
    ⟨_, F_answer_near, B_answer_near, fun s us hu => match us, hu with | [_, _], _ => .of_eq rfl⟩,
    PySem.W.mg_of X G gd_answer_near,
    ke_answer_near,
    ⟨_, F_answer_mend, B_answer_mend, fun s us hu => match us, hu with | [_, _], _ => .of_eq rfl⟩,
    PySem.W.mg_of X G gd_answer_mend,
    ke_answer_mend,
    ⟨_, F_answer_fresh, B_answer_fresh, fun s us hu => match us, hu with | [_, _], _ => .of_eq rfl⟩,
    PySem.W.mg_of X G gd_answer_fresh,
    ke_answer_fresh,
    ⟨_, F_answer_did, B_answer_did, fun s us hu => match us, hu with | [_, _], _ => .of_eq rfl⟩,
    PySem.W.mg_of X G gd_answer_did,
    ke_answer_did,
    ⟨_, F_answers, B_answers, fun s us hu => match us, hu with | [_], _ => .of_eq rfl⟩,
    PySem.W.mg_of X G gd_answers,
    ke_answers,
    ⟨_, PySem.W.mg_of X G gk_WRONG, ⟨_, rfl⟩⟩,
    ⟨_, PySem.W.mg_of X G gk_NO_PLAN, ⟨_, rfl⟩⟩,
    ⟨_, PySem.W.mg_of X G gk_FULL, ⟨_, rfl⟩⟩,
    ⟨_, PySem.W.mg_of X G gk_MOST_FACTS, ⟨_, rfl⟩⟩,
    ⟨_, PySem.W.mg_of X G gk_MOST_ACTS, ⟨_, rfl⟩⟩,
    ⟨_, PySem.W.mg_of X G gk_MOST_PLANNED, ⟨_, rfl⟩⟩,
    ⟨_, PySem.W.mg_of X G gk_MOST_COST, ⟨_, rfl⟩⟩,
    ⟨_, PySem.W.mg_of X G gk_ROW_OF_ACT, ⟨_, rfl⟩⟩,
    ⟨_, PySem.W.mg_of X G gk_CALLS, rfl⟩,
    fun _ => .inr ⟨_, _, _, tu_CALLS_0, rfl, rfl, (by show 2 ≤ sizeLine; decide), (.cons rfl (.cons ⟨_, rfl⟩ .nil))⟩,
    fun _ => .inr ⟨_, _, _, tu_CALLS_1, rfl, rfl, (by show 2 ≤ sizeLine; decide), (.cons rfl (.cons rfl .nil))⟩,
    fun _ => .inr ⟨_, _, _, tu_CALLS_2, rfl, rfl, (by show 2 ≤ sizeLine; decide), (.cons rfl (.cons rfl .nil))⟩,
    fun _ => .inr ⟨_, _, _, tu_CALLS_3, rfl, rfl, (by show 2 ≤ sizeLine; decide), (.cons rfl (.cons ⟨_, rfl⟩ .nil))⟩,
    fun _ => .inr ⟨_, _, _, tu_CALLS_4, rfl, rfl, (by show 2 ≤ sizeLine; decide), (.cons rfl (.cons ⟨_, rfl⟩ .nil))⟩,
    fun _ => .inr ⟨_, _, _, tu_CALLS_5, rfl, rfl, (by show 2 ≤ sizeLine; decide), (.cons rfl (.cons ⟨_, rfl⟩ .nil))⟩,
    fun _ => .inr ⟨_, _, _, tu_CALLS_6, rfl, rfl, (by show 2 ≤ sizeLine; decide), (.cons rfl (.cons ⟨_, rfl⟩ .nil))⟩,
    fun _ => .inr ⟨_, _, _, tu_CALLS_7, rfl, rfl, (by show 2 ≤ sizeLine; decide), (.cons rfl (.cons ⟨_, rfl⟩ .nil))⟩,
    fun _ => .inr ⟨_, _, _, tu_CALLS_8, rfl, rfl, (by show 2 ≤ sizeLine; decide), (.cons rfl (.cons ⟨_, rfl⟩ .nil))⟩,
    fun _ => .inr ⟨_, _, _, tu_CALLS_9, rfl, rfl, (by show 2 ≤ sizeLine; decide), (.cons rfl (.cons ⟨_, rfl⟩ .nil))⟩,
    fun _ => .inr ⟨_, _, _, tu_CALLS_10, rfl, rfl, (by show 2 ≤ sizeLine; decide), (.cons rfl (.cons ⟨_, rfl⟩ .nil))⟩,
    fun _ => .inr ⟨_, _, _, tu_CALLS_11, rfl, rfl, (by show 2 ≤ sizeLine; decide), (.cons rfl (.cons ⟨_, rfl⟩ .nil))⟩,
    fun _ => .inr ⟨_, _, _, tu_CALLS, rfl, rfl, (by show 12 ≤ sizeLine; decide), (.cons rfl (.cons rfl (.cons rfl (.cons rfl (.cons rfl (.cons rfl (.cons rfl (.cons rfl (.cons rfl (.cons rfl (.cons rfl (.cons rfl .nil))))))))))))⟩,
    PySem.W.mg_none_of X G nb_all,
    PySem.W.mg_none_of X G nb_any,
    PySem.W.mg_none_of X G nb_enumerate,
    PySem.W.mg_none_of X G nb_len,
    PySem.W.mg_none_of X G nb_list,
    PySem.W.mg_none_of X G nb_min,
    PySem.W.mg_none_of X G nb_range,
    PySem.W.mg_none_of X G nb_reversed,
    PySem.W.mg_none_of X G nb_sum⟩
end Md

/-! Bits of Python's nums that are not negative; how the house lies in the heap. -/
namespace Md
open PySem PySem.Spec PyProof.Rows L2
theorem band_nat (a b : Nat) : Builtin.bitAnd (a : Int) (b : Int) = ((a.land b : Nat) : Int) := by
  unfold Builtin.bitAnd
  have h1 : decide (0 ≤ (a : Int)) = true := decide_eq_true (Int.natCast_nonneg a)
  have h2 : decide (0 ≤ (b : Int)) = true := decide_eq_true (Int.natCast_nonneg b)
  rw [h1, h2]
  rfl
theorem not_neg (b : Nat) : decide (0 ≤ Builtin.bitNot (b : Int)) = false := by
  apply decide_eq_false
  unfold Builtin.bitNot
  omega
theorem not_not (b : Int) : Builtin.bitNot (Builtin.bitNot b) = b := by
  unfold Builtin.bitNot
  omega
theorem bandnot_nat (a b : Nat) : Builtin.bitAnd (a : Int) (Builtin.bitNot (b : Int)) = ((a - a.land b : Nat) : Int) := by
  unfold Builtin.bitAnd
  have h1 : decide (0 ≤ (a : Int)) = true := decide_eq_true (Int.natCast_nonneg a)
  rw [h1, not_neg b]
  dsimp only
  rw [not_not]
  have h : (a : Int).toNat &&& (b : Int).toNat ≤ a := Nat.and_le_left
  show (a : Int) - ((a &&& b : Nat) : Int) = ((a - (a &&& b) : Nat) : Int)
  have h : a &&& b ≤ a := Nat.and_le_left
  omega
theorem bor_nat (a b : Nat) : Builtin.bitOr (a : Int) (b : Int) = ((a.lor b : Nat) : Int) := by
  unfold Builtin.bitOr Builtin.bitAnd
  rw [not_neg a, not_neg b]
  dsimp only
  rw [not_not, not_not, not_not]
  rfl
theorem land_comm (a b : Nat) : a.land b = b.land a := Nat.and_comm a b
/-- whole numbers as values -/
def nums (l : List Nat) : List V := l.map fun (n : Nat) => V.int (n : Int)
theorem nums_len (l : List Nat) : (nums l).length = l.length := List.length_map _
theorem nums_get {l : List Nat} {i n : Nat} (h : l[i]? = some n) : (nums l)[i]? = some (.int n) := by
  unfold nums
  rw [List.getElem?_map, h]
  rfl
theorem nums_app (l m : List Nat) : nums (l ++ m) = nums l ++ nums m := List.map_append
/-! lookups -/
theorem lk_here {k : Str} {v : V} {r : List (Str × V)} : List.lookup k ((k, v) :: r) = some v := by
  have e : (k == k) = true := beq_self_eq_true k
  simp only [List.lookup, e]
theorem lk_past {k g : Str} {v : V} {r : List (Str × V)} (h : (k == g) = false) : List.lookup k ((g, v) :: r) = List.lookup k r := by
  simp only [List.lookup, h]
theorem put_here {f : Str} {v x : V} {r : List (Str × V)} : putF f v ((f, x) :: r) = (f, v) :: r := if_pos rfl
theorem put_past {f g : Str} {v x : V} {r : List (Str × V)} (h : ¬ g = f) : putF f v ((g, x) :: r) = (g, x) :: putF f v r := if_neg h
/-! an act -/
abbrev aFv (p q b d c : V) : List (Str × V) := [("needed", p), ("barred", q), ("brought", b), ("taken", d), ("cost", c)]
def aF (a : Pn.Act) : List (Str × V) := aFv (.int a.pre) (.int a.no) (.int a.add) (.int a.del) (.int a.cost)
theorem aF_needed (a : Pn.Act) : (aF a).lookup ("needed" : Str) = some (.int a.pre) := lk_here
theorem aF_barred (a : Pn.Act) : (aF a).lookup ("barred" : Str) = some (.int a.no) := (lk_past (by decide +kernel)).trans lk_here
theorem aF_brought (a : Pn.Act) : (aF a).lookup ("brought" : Str) = some (.int a.add) := (lk_past (by decide +kernel)).trans ((lk_past (by decide +kernel)).trans lk_here)
theorem aF_taken (a : Pn.Act) : (aF a).lookup ("taken" : Str) = some (.int a.del) := (lk_past (by decide +kernel)).trans ((lk_past (by decide +kernel)).trans ((lk_past (by decide +kernel)).trans lk_here))
theorem aF_cost (a : Pn.Act) : (aF a).lookup ("cost" : Str) = some (.int a.cost) := (lk_past (by decide +kernel)).trans ((lk_past (by decide +kernel)).trans ((lk_past (by decide +kernel)).trans ((lk_past (by decide +kernel)).trans lk_here)))
theorem aF_no (a : Pn.Act) {x : Str} (h : (x == "needed") = false ∧ (x == "barred") = false ∧ (x == "brought") = false ∧ (x == "taken") = false ∧ (x == "cost") = false) : (aF a).lookup x = none :=
  (lk_past h.1).trans ((lk_past h.2.1).trans ((lk_past h.2.2.1).trans ((lk_past h.2.2.2.1).trans ((lk_past h.2.2.2.2).trans rfl))))
def ActAt (C : Addr) (H : Hp) (x : Addr) (a : Pn.Act) : Prop := ∃ dx, H x = some (.ins C dx (aF a))
end Md

namespace Md
open PySem PySem.Spec PyProof.Rows L2
theorem seq_ne {K : PySem.W.Frag} {H : Hp} {r p : Addr} {xs : List V} {o : HO} (h : SqL K H r xs) (hne : r ≠ p) : SqL K (upd H p o) r xs := by
  rcases h with (h | ⟨o', h⟩) | h
  · exact .inl (.inl (by rw [upd_ne hne]; exact h))
  · exact .inl (.inr ⟨o', by rw [upd_ne hne]; exact h⟩)
  · exact .inr h
theorem seq_ins {K : PySem.W.Frag} {H : Hp} {r p C dx : Addr} {fs : List (Str × V)} {xs : List V} {o : HO} (h : SqL K H r xs) (hp : H p = some (.ins C dx fs)) : SqL K (upd H p o) r xs := by
  rcases h with (h | ⟨o', h⟩) | h
  · exact .inl (.inl (by rw [upd_ne (ne_of h hp (by intro z; cases z))]; exact h))
  · exact .inl (.inr ⟨o', by rw [upd_ne (ne_of h hp (by intro z; cases z))]; exact h⟩)
  · exact .inr h
theorem same_new {H : Hp} {p : Addr} {o : HO} (h : H p = none) : Same H (upd H p o) := fun b x e => by
  rw [upd_ne (ne_of_none e h)]
  exact e
theorem itrue {c : Bool} {A B : Prop} (hc : c = true) (h : A) : if c = true then A else B := by
  rw [if_pos hc]
  exact h
theorem ifalse {c : Bool} {A B : Prop} (hc : c = false) (h : B) : if c = true then A else B := by
  rw [hc, if_neg Bool.false_ne_true]
  exact h
theorem iboth {c : Bool} {A B : Prop} (h1 : c = true → A) (h2 : c = false → B) : if c = true then A else B := by
  cases c with
  | true => exact itrue rfl (h1 rfl)
  | false => exact ifalse rfl (h2 rfl)
theorem ib {c c' : Bool} {A B : Prop} (e : c = c') (h1 : c' = true → A) (h2 : c' = false → B) : if c = true then A else B := by
  subst e
  exact iboth h1 h2
theorem qbl {Q : VK} {H : Hp} {b b' : Bool} (q : Q (.bl b') H) (e : b = b') : Q (.bl b) H := e ▸ q
theorem qint {Q : VK} {H : Hp} {b b' : Int} (q : Q (.int b') H) (e : b = b') : Q (.int b) H := e ▸ q
theorem aF_new (p q b d c : V) : putF "cost" c (putF "taken" d (putF "brought" b (putF "barred" q (putF "needed" p [])))) = aFv p q b d c := rfl
section
variable {P : Program} {w : World} {K : PySem.W.Frag} {mg : Str → Option Value} {base : Heap} {A : Ad}
/-! ### Act -/
def spActInit (K : PySem.W.Frag) (A : Ad) : Sp := fun vs H Q _ => ∃ (p dx r : Addr) (a : Pn.Act), vs = [.ref p, .ref r] ∧ H p = some (.ins A.a_Act dx []) ∧ SqL K H r (nums [a.pre, a.no, a.add, a.del, a.cost]) ∧
  ∀ H' : Hp, H' p = some (.ins A.a_Act dx (aF a)) → (∀ b o, H b = some o → b ≠ p → H' b = some o) → Q .non H'
theorem ok_Act_init (T : Txt K mg A) : C8.Mak P w K mg base 1 "Act" A.a_Act (spActInit K A) [] := by
  obtain ⟨fd, F, B, _⟩ := T.fn_Act_init
  refine ⟨_, fd, _, [], T.mk_Act, F.ok sc_Act_init (fun vs H Q E h => ?_) (fun cdv A' outer s H vs Q E hr h => ?_), T.g_Act, B, .nil⟩
  · obtain ⟨p, dx, r, a, rfl, _⟩ := h
    rfl
  · obtain ⟨p, dx, r, a, rfl, hp, hs, q⟩ := h
    refine ⟨_, (pss_cons (ps_fld (pv 0) (pe_ix ix_list (pv 1) pe_int (fun _ _ => rfl)) rfl)
      (pss_cons (ps_fld (pv 0) (pe_ix ix_list (pv 1) pe_int (fun _ _ => rfl)) rfl)
      (pss_cons (ps_fld (pv 0) (pe_ix ix_list (pv 1) pe_int (fun _ _ => rfl)) rfl)
      (pss_cons (ps_fld (pv 0) (pe_ix ix_list (pv 1) pe_int (fun _ _ => rfl)) rfl)
      (pss_one (ps_fld (pv 0) (pe_ix ix_list (pv 1) pe_int (fun _ _ => rfl)) rfl)))))), ?_⟩
    have hs1 := seq_ins (o := .ins A.a_Act dx (putF "needed" (.int a.pre) [])) hs hp
    have hs2 := seq_ins (o := .ins A.a_Act dx (putF "barred" (.int a.no) (putF "needed" (.int a.pre) []))) hs1 upd_same
    have hs3 := seq_ins (o := .ins A.a_Act dx (putF "brought" (.int a.add) (putF "barred" (.int a.no) (putF "needed" (.int a.pre) [])))) hs2 upd_same
    have hs4 := seq_ins (o := .ins A.a_Act dx (putF "taken" (.int a.del) (putF "brought" (.int a.add) (putF "barred" (.int a.no) (putF "needed" (.int a.pre) []))))) hs3 upd_same
    refine ⟨_, rfl, r, _, 0, _, rfl, rfl, hs, atI_nat (j := 0) rfl, _, rfl, p, _, dx, _, rfl, hp, T.cl_Act, T.na_Act_needed, (by show 0 < 1000; decide), ?_⟩
    refine ⟨_, rfl, r, _, 1, _, rfl, rfl, hs1, atI_nat (j := 1) rfl, _, rfl, p, _, dx, _, rfl, upd_same, T.cl_Act, T.na_Act_barred, (by show 1 < 1000; decide), ?_⟩
    refine ⟨_, rfl, r, _, 2, _, rfl, rfl, hs2, atI_nat (j := 2) rfl, _, rfl, p, _, dx, _, rfl, upd_same, T.cl_Act, T.na_Act_brought, (by show 2 < 1000; decide), ?_⟩
    refine ⟨_, rfl, r, _, 3, _, rfl, rfl, hs3, atI_nat (j := 3) rfl, _, rfl, p, _, dx, _, rfl, upd_same, T.cl_Act, T.na_Act_taken, (by show 3 < 1000; decide), ?_⟩
    refine ⟨_, rfl, r, _, 4, _, rfl, rfl, hs4, atI_nat (j := 4) rfl, _, rfl, p, _, dx, _, rfl, upd_same, T.cl_Act, T.na_Act_cost, (by show 4 < 1000; decide), ?_⟩
    refine q _ ?_ fun b o e hb => ?_
    · exact upd_same.trans (congrArg (fun z => some (HO.ins A.a_Act dx z)) (aF_new _ _ _ _ _))
    · rw [upd_ne hb, upd_ne hb, upd_ne hb, upd_ne hb, upd_ne hb]
      exact e
end
end Md

namespace Md
open PySem PySem.Spec PyProof.Rows L2
theorem v_eq (a b : Nat) : decide (V.int (a : Int) = V.int (b : Int)) = (a == b) := by
  by_cases h : a = b
  · subst h
    simp
  · have : ¬ V.int (a : Int) = V.int (b : Int) := fun e => h (by injection e with e; omega)
    rw [decide_eq_false this]
    exact (beq_eq_false_iff_ne.mpr h).symm
/-- what is so along acts, one behind another -/
def along : List Pn.Act → Nat → List Nat
  | [], s => [s]
  | a :: r, s => if a.may s = true then s :: along r (a.then_ s) else [s]
theorem along_cons (a : Pn.Act) (r : List Pn.Act) (s : Nat) : along (a :: r) s = if a.may s = true then s :: along r (a.then_ s) else [s] := rfl
theorem along_len : ∀ (l : List Pn.Act) (s : Nat), (along l s).length ≤ l.length + 1
  | [], _ => Nat.le_refl _
  | a :: r, s => by
    unfold along
    split
    · have := along_len r (a.then_ s)
      simp only [List.length_cons]
      omega
    · simp
structure Acts (A : Ad) (H : Hp) (xs : List Addr) (as : List Pn.Act) : Prop where
  len : xs.length = as.length
  at_ : ∀ (i : Nat) (x : Addr) (a : Pn.Act), xs[i]? = some x → as[i]? = some a → ActAt A.a_Act H x a
theorem Acts.mono {A : Ad} {H H' : Hp} {xs : List Addr} {as : List Pn.Act} (h : Acts A H xs as) (k : ∀ x a, ActAt A.a_Act H x a → ActAt A.a_Act H' x a) : Acts A H' xs as := ⟨h.len, fun i x a e1 e2 => k x a (h.at_ i x a e1 e2)⟩
theorem ActAt.same {C : Addr} {H H' : Hp} {x : Addr} {a : Pn.Act} (s : Same H H') (h : ActAt C H x a) : ActAt C H' x a := by
  obtain ⟨dx, h⟩ := h
  exact ⟨dx, s _ _ h⟩
section
variable {P : Program} {w : World} {K : PySem.W.Frag} {mg : Str → Option Value} {base : Heap} {A : Ad}
def spMay (A : Ad) : Sp := fun vs H Q _ => ∃ (x : Addr) (a : Pn.Act) (s : Nat), vs = [.ref x, .int s] ∧ ActAt A.a_Act H x a ∧ Q (.bl (a.may s)) H
theorem ok_Act_may (T : Txt K mg A) : C8.Met P w K mg base 1 A.a_Act "may_be_done" (spMay A) [] := by
  obtain ⟨fd, F, B, _⟩ := T.fn_Act_may_be_done
  refine ⟨_, fd, _, [], T.cl_Act, T.me_Act_may_be_done, F.ok sc_Act_may_be_done (fun vs H Q E h => ?_) (fun cdv A' outer s H vs Q E hr h => ?_), B, .nil⟩
  · obtain ⟨x, a, n, rfl, _⟩ := h
    rfl
  · obtain ⟨x, a, n, rfl, ⟨dx, hx⟩, q⟩ := h
    refine ⟨_, (pss_one (ps_ret (pe_and (pe_cmpR op_eq (pe_op op_and (pv 1) (pe_fld (pv 0) rfl)) (pe_fld (pv 0) rfl) (nomark _)) (pe_one (pe_cmpR op_eq (pe_op op_and (pv 1) (pe_fld (pv 0) rfl)) pe_int (nomark _)))))), ?_⟩
    refine ⟨_, rfl, _, rfl, x, _, dx, _, _, rfl, hx, T.cl_Act, T.na_Act_needed, aF_needed a, _, _, rfl, rfl, _, rfl, x, _, dx, _, _, rfl, hx, T.cl_Act, T.na_Act_needed, aF_needed a, rfl, _, rfl, ?_⟩
    have e1 : decide (V.int (Builtin.bitAnd (n : Int) (a.pre : Int)) = V.int (a.pre : Int)) = Pn.within a.pre n := by
      rw [band_nat, v_eq, land_comm]
      rfl
    have e2 : decide (V.int (Builtin.bitAnd (n : Int) (a.no : Int)) = V.int 0) = Pn.apart a.no n := by
      rw [band_nat]
      exact (v_eq _ 0).trans (by rw [land_comm]; rfl)
    refine ib e1 (fun h1 => ?_) (fun h1 => ?_)
    · refine ⟨_, rfl, _, rfl, x, _, dx, _, _, rfl, hx, T.cl_Act, T.na_Act_barred, aF_barred a, _, _, rfl, rfl, rfl, ?_⟩
      refine qbl q (e2.trans ?_)
      show _ = (Pn.within a.pre n && Pn.apart a.no n)
      rw [h1, Bool.true_and]
    · refine qbl q ?_
      show _ = (Pn.within a.pre n && Pn.apart a.no n)
      rw [h1, Bool.false_and]
def spBehind (A : Ad) : Sp := fun vs H Q _ => ∃ (x : Addr) (a : Pn.Act) (s : Nat), vs = [.ref x, .int s] ∧ ActAt A.a_Act H x a ∧ Q (.int (a.then_ s : Nat)) H
theorem ok_Act_behind (T : Txt K mg A) : C8.Met P w K mg base 1 A.a_Act "state_behind" (spBehind A) [] := by
  obtain ⟨fd, F, B, _⟩ := T.fn_Act_state_behind
  refine ⟨_, fd, _, [], T.cl_Act, T.me_Act_state_behind, F.ok sc_Act_state_behind (fun vs H Q E h => ?_) (fun cdv A' outer s H vs Q E hr h => ?_), B, .nil⟩
  · obtain ⟨x, a, n, rfl, _⟩ := h
    rfl
  · obtain ⟨x, a, n, rfl, ⟨dx, hx⟩, q⟩ := h
    refine ⟨_, (pss_one (ps_ret (pe_op op_or (pe_op op_and (pv 1) (pe_un un_inv (pe_fld (pv 0) rfl))) (pe_fld (pv 0) rfl)))), ?_⟩
    refine ⟨_, rfl, _, rfl, x, _, dx, _, _, rfl, hx, T.cl_Act, T.na_Act_taken, aF_taken a, _, rfl, _, _, rfl, rfl, _, rfl, x, _, dx, _, _, rfl, hx, T.cl_Act, T.na_Act_brought, aF_brought a, _, _, rfl, rfl, ?_⟩
    refine qint q ?_
    rw [bandnot_nat, bor_nat]
    rfl
def spAlong (K : PySem.W.Frag) (A : Ad) : Sp := fun vs H Q _ => ∃ (l : Addr) (xs : List Addr) (as : List Pn.Act) (s : Nat), vs = [.ref l, .int s] ∧ SqL K H l (xs.map V.ref) ∧ Acts A H xs as ∧ as.length ≤ 2000000 ∧
  ∀ (H' : Hp) (p : Addr), Same H H' → H p = none → H' p = some (.lst (nums (along as s))) → Q (.ref p) H'
theorem ok_states_along (T : Txt K mg A) : C8.Cal P w K mg base 2 "states_along" (spAlong K A) [] := by
  have c_Act_may_be_done : C8.Met P w K mg base 1 A.a_Act "may_be_done" (spMay A) [] := ok_Act_may T
  have c_Act_state_behind : C8.Met P w K mg base 1 A.a_Act "state_behind" (spBehind A) [] := ok_Act_behind T
  obtain ⟨fd, F, B, _⟩ := T.fn_states_along
  refine ⟨_, fd, _, [], F.ok sc_states_along (fun vs H Q E h => ?_) (fun cdv A' outer s H vs Q E hr h => ?_), T.g_states_along, T.kp_states_along, B, .nil⟩
  · obtain ⟨l, xs, as, n, rfl, _⟩ := h
    rfl
  · obtain ⟨l, xs, as, n, rfl, hl, ha, hlen, q⟩ := h
    refine ⟨_, (pss_cons (ps_set (i := 2) sc_states_along.nd rfl (Or.inl rfl) (pe_lst (pa_cons (pv 1) pa_nil)))
      (pss_cons (ps_for PassesOwn.never rfl (pi_list (pv 0)) (pg_name (i := 3) sc_states_along.nd rfl (Or.inl rfl))
      (pss_cons (ps_if (pt_not (pt_val (C8.pe_mt c_Act_may_be_done hr (by decide) (pv 3) (pa_cons (pe_ix ix_list (pv 2) (pe_un un_neg pe_int) (fun _ _ => rfl)) pa_nil))))
        (pss_one ps_break)
        pss_nil)
        (pss_one (ps_expr (pe_bm PySem.F.plainAttrs_list PySem.F.slot_list_append PySem.F.type_list_append mt_append (pv 2) (pa_cons (C8.pe_mt c_Act_state_behind hr (by decide) (pv 3) (pa_cons (pe_ix ix_list (pv 2) (pe_un un_neg pe_int) (fun _ _ => rfl)) pa_nil)) pa_nil))))))
      (pss_one (ps_ret (pv 2))))), ?_⟩
    -- states = [state]
    refine ⟨_, rfl, (by show 1 ≤ sizeLine; decide), fun o no => ?_⟩
    have s1 : Same H (upd H o (.lst [.int n])) := same_new no
    -- the loop
    refine ⟨_, rfl, l, rfl, ⟨_, s1.seq hl⟩, for_list (K := K) (a := l) (xs := xs.map V.ref) (fun i σ H' => ∃ (v : Option V) (pre : List Nat) (cur : Nat), σ = [some (.ref l), some (.int n), some (.ref o), v] ∧ Same H H' ∧ H' o = some (.lst (nums pre ++ [.int cur])) ∧ along as n = pre ++ along (as.drop i) cur ∧ pre.length ≤ i) ?_ ?_ ?_ ?_⟩
    · exact ⟨none, [], n, rfl, s1, upd_same, by simp, Nat.le_refl _⟩
    · rintro i σ H' _ ⟨v, pre, cur, rfl, sm, _⟩
      exact sm.seq hl
    · rintro i y σ H' hi ⟨v, pre, cur, rfl, sm, ho, he, hp⟩
      rw [List.getElem?_map] at hi
      cases hx : xs[i]? with
      | none =>
        rw [hx] at hi
        cases hi
      | some x =>
        rw [hx] at hi
        cases hi
        have hil : i < as.length := by
          rw [← ha.len]
          exact (List.getElem?_eq_some_iff.mp hx).1
        have hact := ha.at_ i x as[i] hx (List.getElem?_eq_getElem hil)
        have hact' := hact.same sm
        have hdrop : as.drop i = as[i] :: as.drop (i + 1) := List.drop_eq_getElem_cons hil
        rw [hdrop] at he
        obtain ⟨dx, hx'⟩ := hact'
        have hlast : atI (nums pre ++ [V.int cur]) (-1) = some (V.int cur) := atI_last _ _
        have hnm : ∀ z : Str, (z == "needed") = false ∧ (z == "barred") = false ∧ (z == "brought") = false ∧ (z == "taken") = false ∧ (z == "cost") = false → (aF as[i]).lookup z = none := fun z hz => aF_no _ hz
        -- if not act.may_be_done(states[-1])
        refine ⟨_, rfl, x, dx, _, rfl, hx', hnm _ (by decide +kernel), _, rfl, _, rfl, o, _, _, _, rfl, rfl, .inl (.inl ho), hlast, x, as[i], cur, rfl, ⟨dx, hx'⟩, _, rfl, ?_⟩
        refine iboth (fun hc => ?_) (fun hc => ?_)
        · -- break
          have hc : as[i].may cur = false := by simpa using hc
          rw [along_cons, hc, if_neg Bool.false_ne_true] at he
          refine ⟨_, rfl, q _ o sm no ?_⟩
          rw [he, nums_app]
          exact ho
        · have hc : as[i].may cur = true := by simpa using hc
          rw [along_cons, hc, if_pos rfl] at he
          refine ⟨_, rfl, .inl ⟨rfl, _, .inl (.inl ho)⟩, _, rfl, x, dx, _, rfl, hx', hnm _ (by decide +kernel), _, rfl, _, rfl, o, _, _, _, rfl, rfl, .inl (.inl ho), hlast, x, as[i], cur, rfl, ⟨dx, hx'⟩, o, _, _, rfl, rfl, ho, ?_, ?_⟩
          · rw [List.length_append, nums_len]
            show pre.length + 1 < 2 ^ 24
            omega
          · refine ⟨some (.ref x), pre ++ [cur], as[i].then_ cur, rfl, ?_, ?_, ?_, ?_⟩
            · intro b z e
              rw [upd_ne (ne_of_none e no)]
              exact sm b z e
            · rw [upd_same, nums_app]
              rfl
            · rw [he, List.append_assoc]
              rfl
            · rw [List.length_append]
              simp
              omega
    · rintro σ H' ⟨v, pre, cur, rfl, sm, ho, he, hp⟩
      have hd : as.drop (xs.map V.ref).length = [] := by
        rw [List.length_map, ha.len]
        exact List.drop_length
      rw [hd] at he
      refine ⟨_, rfl, q _ o sm no ?_⟩
      rw [he, nums_app]
      exact ho
end
end Md

namespace Md
open PySem PySem.Spec PyProof.Rows L2
theorem tyes {σ : L2.St} {H : Hp} {A B : Hp → Prop} (h : A H) : tYes σ H (fun b H3 => if b = true then A H3 else B H3) := by
  show (if true = true then A H else B H)
  rw [if_pos rfl]
  exact h
/-! ### mathematics: a row of acts, by the states along it -/
theorem along_ne (l : List Pn.Act) (s : Nat) : ∃ pre cur, along l s = pre ++ [cur] := by
  cases e : along l s with
  | nil =>
    cases l with
    | nil => cases e
    | cons a r =>
      rw [along_cons] at e
      split at e <;> cases e
  | cons x r => exact ⟨_, _, (List.dropLast_concat_getLast (List.cons_ne_nil x r)).symm⟩
/-- the last of the states -/
def lastS (l : List Pn.Act) (s : Nat) : Nat := (along l s).getLast?.getD 0
theorem lastS_of {l : List Pn.Act} {s cur : Nat} {pre : List Nat} (h : along l s = pre ++ [cur]) : lastS l s = cur := by
  unfold lastS
  rw [h]
  simp
theorem lastS_cons {a : Pn.Act} {r : List Pn.Act} {s : Nat} (h : a.may s = true) : lastS (a :: r) s = lastS r (a.then_ s) := by
  obtain ⟨pre, cur, e⟩ := along_ne r (a.then_ s)
  rw [lastS_of e]
  refine lastS_of (pre := s :: pre) ?_
  rw [along_cons, if_pos h, e]
  rfl
theorem can_act {t : Pn.Task} {s k : Nat} (h : k < t.acts.length) : t.can s k = (t.act k).may s := by
  unfold Pn.Task.can
  rw [decide_eq_true h, Bool.true_and]
theorem far_along (t : Pn.Task) : ∀ (l : List Nat) (n s : Nat), (∀ k ∈ l, k < t.acts.length) → Pn12.far t n s l = (n + ((along (l.map t.act) s).length - 1), lastS (l.map t.act) s)
  | [], n, s, _ => rfl
  | k :: l, n, s, h => by
    have hk : k < t.acts.length := h k (List.mem_cons_self ..)
    unfold Pn12.far
    rw [can_act hk, List.map_cons]
    cases e : (t.act k).may s with
    | false =>
      rw [if_neg Bool.false_ne_true]
      have e2 : along (t.act k :: l.map t.act) s = [] ++ [s] := by rw [along_cons, e, if_neg Bool.false_ne_true]; rfl
      rw [lastS_of e2, e2]
      rfl
    | true =>
      rw [if_pos rfl, far_along t l (n + 1) _ fun j hj => h j (List.mem_cons_of_mem _ hj), lastS_cons e, along_cons, e, if_pos rfl]
      obtain ⟨pre, cur, e3⟩ := along_ne (l.map t.act) ((t.act k).then_ s)
      rw [e3, List.length_cons, List.length_append]
      simp
      omega
theorem goes_along (t : Pn.Task) : ∀ (l : List Nat) (s : Nat), (∀ k ∈ l, k < t.acts.length) → t.goes s l = if (along (l.map t.act) s).length ≤ l.length then none else some (lastS (l.map t.act) s)
  | [], s, _ => rfl
  | k :: l, s, h => by
    have hk : k < t.acts.length := h k (List.mem_cons_self ..)
    rw [goes_cons, can_act hk, List.map_cons]
    cases e : (t.act k).may s with
    | false =>
      rw [if_neg Bool.false_ne_true, along_cons, e, if_neg Bool.false_ne_true, if_pos (by simp)]
    | true =>
      rw [if_pos rfl, goes_along t l _ fun j hj => h j (List.mem_cons_of_mem _ hj), lastS_cons e, along_cons, e, if_pos rfl]
      by_cases hl : (along (l.map t.act) ((t.act k).then_ s)).length ≤ l.length
      · rw [if_pos hl, if_pos (by simpa using hl)]
      · rw [if_neg hl, if_neg (by simpa using hl)]
theorem plan_along {t : Pn.Task} {l : List Nat} {s : Nat} (h : ∀ k ∈ l, k < t.acts.length) : t.plan s l = if (along (l.map t.act) s).length ≤ l.length then false else t.done (lastS (l.map t.act) s) := by
  unfold Pn.Task.plan
  rw [goes_along t l s h]
  by_cases hl : (along (l.map t.act) s).length ≤ l.length
  · rw [if_pos hl, if_pos hl]
  · rw [if_neg hl, if_neg hl]
theorem map_act_get {t : Pn.Task} {l : List Nat} {i k : Nat} (h : l[i]? = some k) : (l.map t.act)[i]? = some (t.act k) := by
  rw [List.getElem?_map, h]
  rfl
theorem act_get {t : Pn.Task} {k : Nat} (h : k < t.acts.length) : t.acts[k]? = some (t.act k) := by
  unfold Pn.Task.act
  rw [List.getD_eq_getElem?_getD, List.getElem?_eq_getElem h]
  rfl
/-! ### the house in the heap -/
abbrev hFv (n s g la lr ld : V) : List (Str × V) := [("facts", n), ("state", s), ("wanted", g), ("acts", la), ("rest", lr), ("done", ld)]
section
variable {n s g la lr ld : V}
theorem hF_facts : (hFv n s g la lr ld).lookup ("facts" : Str) = some n := lk_here
theorem hF_state : (hFv n s g la lr ld).lookup ("state" : Str) = some s := (lk_past (by decide +kernel)).trans lk_here
theorem hF_wanted : (hFv n s g la lr ld).lookup ("wanted" : Str) = some g := (lk_past (by decide +kernel)).trans ((lk_past (by decide +kernel)).trans lk_here)
theorem hF_acts : (hFv n s g la lr ld).lookup ("acts" : Str) = some la := (lk_past (by decide +kernel)).trans ((lk_past (by decide +kernel)).trans ((lk_past (by decide +kernel)).trans lk_here))
theorem hF_rest : (hFv n s g la lr ld).lookup ("rest" : Str) = some lr := (lk_past (by decide +kernel)).trans ((lk_past (by decide +kernel)).trans ((lk_past (by decide +kernel)).trans ((lk_past (by decide +kernel)).trans lk_here)))
theorem hF_done : (hFv n s g la lr ld).lookup ("done" : Str) = some ld := (lk_past (by decide +kernel)).trans ((lk_past (by decide +kernel)).trans ((lk_past (by decide +kernel)).trans ((lk_past (by decide +kernel)).trans ((lk_past (by decide +kernel)).trans lk_here))))
theorem hF_no {x : Str} (h : (x == "facts") = false ∧ (x == "state") = false ∧ (x == "wanted") = false ∧ (x == "acts") = false ∧ (x == "rest") = false ∧ (x == "done") = false) : (hFv n s g la lr ld).lookup x = none :=
  (lk_past h.1).trans ((lk_past h.2.1).trans ((lk_past h.2.2.1).trans ((lk_past h.2.2.2.1).trans ((lk_past h.2.2.2.2.1).trans ((lk_past h.2.2.2.2.2).trans rfl)))))
end
structure HouseAt (A : Ad) (N : Addr → Prop) (H : Hp) (h la : Addr) (m : Pn12.House) : Prop where
  ex : ∃ (dx lr ld : Addr) (xs : List Addr), H h = some (.ins A.a_House dx (hFv (.int m.task.facts) (.int m.now) (.int m.task.goal) (.ref la) (.ref lr) (.ref ld))) ∧ H la = some (.lst (xs.map V.ref)) ∧ Acts A H xs m.task.acts ∧
    H lr = some (.lst (nums m.rest)) ∧ H ld = some (.lst (nums m.did)) ∧ la ≠ lr ∧ la ≠ ld ∧ N lr ∧ N ld
theorem HouseAt.same {A : Ad} {N : Addr → Prop} {H H' : Hp} {h la : Addr} {m : Pn12.House} (e : Same H H') (hh : HouseAt A N H h la m) : HouseAt A N H' h la m := by
  obtain ⟨dx, lr, ld, xs, h1, h2, h3, h4, h5, h6, h7, h8, h9⟩ := hh
  exact ⟨dx, lr, ld, xs, e _ _ h1, e _ _ h2, h3.mono fun x a k => k.same e, e _ _ h4, e _ _ h5, h6, h7, h8, h9⟩
/-- a place that isn't tracked is none of the house's -/
theorem HouseAt.ne {A : Ad} {N : Addr → Prop} {H : Hp} {h la an : Addr} {m : Pn12.House} (hh : HouseAt A N H h la m) (hn : H an = none) : HouseAt A (fun b => b ≠ an) H h la m := by
  obtain ⟨dx, lr, ld, xs, h1, h2, h3, h4, h5, h6, h7, h8, h9⟩ := hh
  exact ⟨dx, lr, ld, xs, h1, h2, h3, h4, h5, h6, h7, ne_of_none h4 hn, ne_of_none h5 hn⟩
section
variable {P : Program} {w : World} {K : PySem.W.Frag} {mg : Str → Option Value} {base : Heap} {A : Ad}
def spAll : Sp := fun vs H Q _ => ∃ (c n : Nat), vs = [.int c, .int n] ∧ Q (.bl (decide (c < 2 ^ n))) H
theorem ok_all_there (T : Txt K mg A) : C8.Cal P w K mg base 1 "all_there" spAll [] := by
  obtain ⟨fd, F, B, _⟩ := T.fn_all_there
  refine ⟨_, fd, _, [], F.ok sc_all_there (fun vs H Q E h => ?_) (fun cdv A' outer s H vs Q E hr h => ?_), T.g_all_there, T.kp_all_there, B, .nil⟩
  · obtain ⟨c, n, rfl, _⟩ := h
    rfl
  · obtain ⟨c, n, rfl, q⟩ := h
    refine ⟨_, (pss_one (ps_ret (pe_cmpR op_eq (pe_op op_shr (pv 0) (pv 1)) pe_int (nomark _)))), ?_⟩
    refine ⟨_, rfl, _, rfl, _, _, rfl, rfl, Int.natCast_nonneg n, rfl, qbl q ?_⟩
    have e : (c : Int) / 2 ^ (n : Int).toNat = ((c / 2 ^ n : Nat) : Int) := by
      rw [Int.toNat_natCast, Int.natCast_ediv, Int.natCast_pow]
      rfl
    show decide (V.int ((c : Int) / 2 ^ (n : Int).toNat) = V.int 0) = _
    rw [e]
    refine (v_eq _ 0).trans ?_
    have hp : 0 < 2 ^ n := Nat.two_pow_pos n
    by_cases h : c < 2 ^ n
    · rw [decide_eq_true h, Nat.div_eq_of_lt h]
      rfl
    · rw [decide_eq_false h]
      refine beq_eq_false_iff_ne.mpr fun z => ?_
      rcases Nat.div_eq_zero_iff.mp z with z | z <;> omega
def spAnew (A : Ad) : Sp := fun vs H Q _ => ∃ (N : Addr → Prop) (h dx : Addr) (fs : List (Str × V)) (n s g : Nat), (∀ b, H b = none → N b) ∧ vs = [.ref h, .int n, .int s, .int g] ∧ H h = some (.ins A.a_House dx fs) ∧ (fs = [] ∨ ∃ a b c d e f, fs = hFv a b c d e f) ∧
  ∀ (H' : Hp) (la : Addr), HouseAt A N H' h la ⟨⟨n, [], s, g⟩, s, [], []⟩ → H la = none → (∀ b o, H b = some o → b ≠ h → H' b = some o) → Q .non H'
theorem hF_new (a b c d e f : V) : putF "done" f (putF "rest" e (putF "acts" d (putF "wanted" c (putF "state" b (putF "facts" a []))))) = hFv a b c d e f := rfl
theorem hF_anew (a b c d e f a' b' c' d' e' f' : V) : putF "done" f' (putF "rest" e' (putF "acts" d' (putF "wanted" c' (putF "state" b' (putF "facts" a' (hFv a b c d e f)))))) = hFv a' b' c' d' e' f' := rfl
theorem ok_House_set_anew (T : Txt K mg A) : C8.Met P w K mg base 1 A.a_House "set_anew" (spAnew A) [] := by
  obtain ⟨fd, F, B, _⟩ := T.fn_House_set_anew
  refine ⟨_, fd, _, [], T.cl_House, T.me_House_set_anew, F.ok sc_House_set_anew (fun vs H Q E h => ?_) (fun cdv A' outer s H vs Q E hr h => ?_), B, .nil⟩
  · obtain ⟨N, h, dx, fs, n, s, g, _, rfl, _⟩ := h
    rfl
  · obtain ⟨N, h, dx, fs, n, st, g, hN, rfl, hh, hf, q⟩ := h
    refine ⟨_, (pss_cons (ps_fld (pv 0) (pv 1) rfl)
      (pss_cons (ps_fld (pv 0) (pv 2) rfl)
      (pss_cons (ps_fld (pv 0) (pv 3) rfl)
      (pss_cons (ps_fld (pv 0) (pe_lst pa_nil) rfl)
      (pss_cons (ps_fld (pv 0) (pe_lst pa_nil) rfl)
      (pss_one (ps_fld (pv 0) (pe_lst pa_nil) rfl))))))), ?_⟩
    have hl : fs.length ≤ 6 := by
      rcases hf with rfl | ⟨a, b, c, d, e, f, rfl⟩ <;> simp
    have pl : ∀ (f : Str) (v : V) (l : List (Str × V)), (putF f v l).length ≤ l.length + 1 := fun f v l => by
      induction l with
      | nil => exact Nat.le_refl _
      | cons x r ih =>
        obtain ⟨g, z⟩ := x
        unfold putF
        split
        · simp
        · simp only [List.length_cons]
          omega
    refine ⟨_, rfl, _, rfl, h, _, dx, _, rfl, hh, T.cl_House, T.na_House_facts, (by omega), ?_⟩
    refine ⟨_, rfl, _, rfl, h, _, dx, _, rfl, upd_same, T.cl_House, T.na_House_state, (by have := pl "facts" (.int n) fs; omega), ?_⟩
    refine ⟨_, rfl, _, rfl, h, _, dx, _, rfl, upd_same, T.cl_House, T.na_House_wanted, (by have := pl "facts" (.int n) fs; have := pl "state" (.int st) (putF "facts" (.int n) fs); omega), ?_⟩
    have l3 : (putF "wanted" (.int g) (putF "state" (.int st) (putF "facts" (.int n) fs))).length ≤ 9 := by
      have := pl "facts" (.int n) fs
      have := pl "state" (.int st) (putF "facts" (.int n) fs)
      have := pl "wanted" (.int g) (putF "state" (.int st) (putF "facts" (.int n) fs))
      omega
    generalize e3' : upd (upd (upd H h (.ins A.a_House dx (putF "facts" (.int n) fs))) h (.ins A.a_House dx (putF "state" (.int st) (putF "facts" (.int n) fs)))) h (.ins A.a_House dx (putF "wanted" (.int g) (putF "state" (.int st) (putF "facts" (.int n) fs)))) = H3
    generalize e3 : putF "wanted" (.int g) (putF "state" (.int st) (putF "facts" (.int n) fs)) = f3 at l3
    have h3 : H3 h = some (.ins A.a_House dx f3) := by
      rw [← e3', upd_same, e3]
    have k3 : ∀ b o, H b = some o → b ≠ h → H3 b = some o := fun b o e hb => by
      rw [← e3', upd_ne hb, upd_ne hb, upd_ne hb]
      exact e
    refine ⟨Nat.zero_le _, fun l1 n1 => ⟨_, rfl, h, _, dx, _, rfl, same_new n1 _ _ h3, T.cl_House, T.na_House_acts, (by omega), ?_⟩⟩
    have p1 := pl "acts" (.ref l1) f3
    refine ⟨Nat.zero_le _, fun l2 n2 => ⟨_, rfl, h, _, dx, _, rfl, same_new n2 _ _ upd_same, T.cl_House, T.na_House_rest, (by omega), ?_⟩⟩
    have p2 := pl "rest" (.ref l2) (putF "acts" (.ref l1) f3)
    refine ⟨Nat.zero_le _, fun l3 n3 => ⟨_, rfl, h, _, dx, _, rfl, same_new n3 _ _ upd_same, T.cl_House, T.na_House_done, (by omega), ?_⟩⟩
    -- unlike addresses
    have d1 : l1 ≠ h := fun z => by rw [z, h3] at n1; cases n1
    have d2 : l2 ≠ h := fun z => by rw [z, upd_same] at n2; cases n2
    have d3 : l3 ≠ h := fun z => by rw [z, upd_same] at n3; cases n3
    have d12 : l1 ≠ l2 := fun z => by rw [← z, upd_ne d1, upd_same] at n2; cases n2
    have d13 : l1 ≠ l3 := fun z => by rw [← z, upd_ne d1, upd_ne d12, upd_ne d1, upd_same] at n3; cases n3
    have d23 : l2 ≠ l3 := fun z => by rw [← z, upd_ne d2, upd_same] at n3; cases n3
    have hn1 : H l1 = none := by
      cases e : H l1 with
      | none => rfl
      | some o =>
        rw [k3 _ _ e d1] at n1
        cases n1
    have hn2 : H l2 = none := by
      cases e : H l2 with
      | none => rfl
      | some o =>
        rw [upd_ne d2, same_new n1 _ _ (k3 _ _ e d2)] at n2
        cases n2
    have hn3 : H l3 = none := by
      cases e : H l3 with
      | none => rfl
      | some o =>
        have z : (upd H3 l1 (.lst [])) l3 = some o := same_new n1 _ _ (k3 _ _ e d3)
        have z2 : (upd (upd H3 l1 (.lst [])) h (.ins A.a_House dx (putF "acts" (.ref l1) f3))) l3 = some o := by rw [upd_ne d3]; exact z
        rw [upd_ne d3, same_new n2 _ _ z2] at n3
        cases n3
    refine q _ l1 ⟨dx, l2, l3, [], ?_, ?_, ⟨rfl, fun i x a e => by simp at e⟩, ?_, ?_, d12, d13, hN _ hn2, hN _ hn3⟩ hn1 fun b o e hb => ?_
    · refine upd_same.trans (congrArg (fun z => some (HO.ins A.a_House dx z)) ?_)
      rw [← e3]
      rcases hf with rfl | ⟨a, b, c, d, e, f, rfl⟩ <;> rfl
    · rw [upd_ne d1, upd_ne d13, upd_ne d1, upd_ne d12, upd_ne d1, upd_same]
      rfl
    · rw [upd_ne d2, upd_ne d23, upd_ne d2, upd_same]
      rfl
    · rw [upd_ne d3, upd_same]
      rfl
    · have e3b := k3 b o e hb
      rw [upd_ne hb]
      refine same_new n3 _ _ ?_
      rw [upd_ne hb]
      refine same_new n2 _ _ ?_
      rw [upd_ne hb]
      exact same_new n1 _ _ e3b
def spHouseInit (A : Ad) : Sp := fun vs H Q _ => ∃ (h dx : Addr), vs = [.ref h] ∧ H h = some (.ins A.a_House dx []) ∧
  ∀ (H' : Hp) (la : Addr), HouseAt A (fun _ => True) H' h la Pn12.init → H la = none → (∀ b o, H b = some o → b ≠ h → H' b = some o) → Q .non H'
theorem ok_House_init (T : Txt K mg A) : C8.Mak P w K mg base 2 "House" A.a_House (spHouseInit A) [] := by
  have c_House_set_anew : C8.Met P w K mg base 1 A.a_House "set_anew" (spAnew A) [] := ok_House_set_anew T
  obtain ⟨fd, F, B, _⟩ := T.fn_House_init
  refine ⟨_, fd, _, [], T.mk_House, F.ok sc_House_init (fun vs H Q E h => ?_) (fun cdv A' outer s H vs Q E hr h => ?_), T.g_House, B, .nil⟩
  · obtain ⟨h, dx, rfl, _⟩ := h
    rfl
  · obtain ⟨h, dx, rfl, hh, q⟩ := h
    refine ⟨_, (pss_one (ps_expr (C8.pe_mt c_House_set_anew hr (by decide) (pv 0) (pa_cons pe_int (pa_cons pe_int (pa_cons pe_int pa_nil)))))), ?_⟩
    exact ⟨_, rfl, h, dx, _, rfl, hh, rfl, _, h, dx, [], 1, 0, 0, fun _ _ => trivial, rfl, hh, .inl rfl, q⟩
def spStates (K : PySem.W.Frag) (A : Ad) : Sp := fun vs H Q _ => ∃ (N : Addr → Prop) (h la l : Addr) (m : Pn12.House) (ns : List Nat), vs = [.ref h, .ref l] ∧ HouseAt A N H h la m ∧ SqL K H l (nums ns) ∧ (∀ k ∈ ns, k < m.task.acts.length) ∧ ns.length ≤ 2000000 ∧
  ∀ (H' : Hp) (p : Addr), Same H H' → H p = none → H' p = some (.lst (nums (along (ns.map m.task.act) m.now))) → Q (.ref p) H'
theorem ok_House_states_of (T : Txt K mg A) : C8.Met P w K mg base 3 A.a_House "states_of" (spStates K A) [] := by
  have c_states_along : C8.Cal P w K mg base 2 "states_along" (spAlong K A) [] := ok_states_along T
  obtain ⟨fd, F, B, _⟩ := T.fn_House_states_of
  refine ⟨_, fd, _, [], T.cl_House, T.me_House_states_of, F.ok sc_House_states_of (fun vs H Q E h => ?_) (fun cdv A' outer s H vs Q E hr h => ?_), B, .nil⟩
  · obtain ⟨N, h, la, l, m, ns, rfl, _⟩ := h
    rfl
  · obtain ⟨N, h, la, l, m, ns, rfl, hh, hl, hk, hlen, q⟩ := h
    refine ⟨_, (pss_one (ps_ret (C8.pe_c c_states_along hr (by decide) (by rfl) (pa_cons (pe_lc (own := [("number", 2)]) (g := gName 2) (tt := tYes) (te := tOp (rIxL K) (tFld K (tVar 0) "acts") (tVar 2)) (by rfl) sc_House_states_of.nd (pi_list (pv 1)) (blkOk_by (own := [("number", 2)]) (N := n_House_states_of) (sc := defScope s_House_states_of) (by decide +kernel)) (fun _ _ _ _ _ => pg_name (i := 2) sc_House_states_of.nd rfl (Or.inl rfl)) (fun _ _ _ _ _ => pts_nil) (fun _ _ _ _ _ => by exact (pe_ix ix_list (pe_fld (pv 0) rfl) (pv 2) (fun _ _ => rfl)))) (pa_cons (pe_fld (pv 0) rfl) pa_nil))))), ?_⟩
    obtain ⟨dx, lr, ld, xs, h1, h2, h3, h4, h5, h6, h7, h8, h9⟩ := hh
    refine ⟨_, rfl, l, rfl, ⟨_, hl⟩, fun D hD => lc_list (K := K) (a := l) (xs := nums ns) (fun i H' => Same H H' ∧ ∃ ys, H' D = some (.lst (ys.map V.ref)) ∧ Acts A H' ys ((ns.take i).map m.task.act)) ?_ ?_ ?_ ?_⟩
    · exact ⟨same_new hD, [], upd_same, ⟨rfl, fun i x a e => by simp at e⟩⟩
    · rintro i H' _ ⟨sm, _⟩
      exact sm.seq hl
    · rintro i y H' hi ⟨sm, ys, hy, ha⟩
      cases hn : ns[i]? with
      | none =>
        unfold nums at hi
        rw [List.getElem?_map, hn] at hi
        cases hi
      | some k =>
        have e := nums_get hn
        rw [hi] at e
        cases e
        have hkl : k < m.task.acts.length := hk k (List.mem_of_getElem? hn)
        have hxl : k < xs.length := by rw [h3.len]; exact hkl
        have hx : xs[k]? = some xs[k] := List.getElem?_eq_getElem hxl
        have hrx : (xs.map V.ref)[k]? = some (V.ref xs[k]) := by rw [List.getElem?_map, hx]; rfl
        have hil : i < ns.length := (List.getElem?_eq_some_iff.mp hn).1
        have hyl : ys.length = i := by
          rw [ha.len, List.length_map, List.length_take]
          omega
        refine ⟨rfl, ?_⟩
        refine tyes ?_
        refine ⟨_, rfl, h, _, dx, _, _, rfl, sm _ _ h1, T.cl_House, T.na_House_acts, hF_acts, _, rfl, la, _, _, _, rfl, rfl, .inl (.inl (sm _ _ h2)), atI_nat hrx, _, hy, ?_, fun b o e => ?_, ys ++ [xs[k]], ?_, ?_, ?_⟩
        · rw [List.length_map]
          show ys.length < 2 ^ 24
          omega
        · rw [upd_ne (ne_of_none e hD)]
          exact sm _ _ e
        · rw [upd_same, List.map_append]
          rfl
        · rw [List.length_append, hyl, List.length_map, List.length_take]
          simp
          omega
        · intro j x a e1 e2
          have hact : ∀ {x : Addr} {a : Pn.Act}, ActAt A.a_Act H' x a → ActAt A.a_Act (upd H' D (.lst (ys.map V.ref ++ [V.ref xs[k]]))) x a := fun {x a} ⟨dx', z⟩ => ⟨dx', by
            rw [upd_ne (ne_of z hy (by intro z; cases z))]
            exact z⟩
          rcases Nat.lt_trichotomy j i with hj | hj | hj
          · rw [List.getElem?_append_left (by omega)] at e1
            refine hact (ha.at_ j x a e1 ?_)
            rw [List.getElem?_map, List.getElem?_take] at e2 ⊢
            rw [if_pos (by omega)] at e2
            rw [if_pos hj]
            exact e2
          · subst hj
            rw [List.getElem?_append_right (by omega), hyl, Nat.sub_self] at e1
            cases e1
            rw [List.getElem?_map, List.getElem?_take, if_pos (by omega), hn] at e2
            cases e2
            exact hact ((h3.at_ k _ _ hx (act_get hkl)).same sm)
          · rw [List.getElem?_append_right (by omega), List.getElem?_eq_none (by simp; omega)] at e1
            cases e1
    · rintro H' ⟨sm, ys, hy, ha⟩
      rw [nums_len, List.take_length] at ha
      refine ⟨_, rfl, h, _, dx, _, _, rfl, sm _ _ h1, T.cl_House, T.na_House_state, hF_state, D, ys, ns.map m.task.act, m.now, rfl, .inl (.inl hy), ha, ?_, fun H2 p sm2 np hp => ?_⟩
      · rw [List.length_map]
        exact hlen
      · exact q H2 p (sm.trans sm2) (sm.free np) hp
def doesN (m : Pn12.House) : Nat := if m.task.plan m.now m.rest = true then 1 else 0
def spDoes (A : Ad) : Sp := fun vs H Q _ => ∃ (N : Addr → Prop) (h la : Addr) (m : Pn12.House), vs = [.ref h] ∧ HouseAt A N H h la m ∧ (∀ k ∈ m.rest, k < m.task.acts.length) ∧ m.rest.length ≤ 2000000 ∧
  ∀ (H' : Hp), Same H H' → Q (.int (doesN m : Nat)) H'
theorem ok_House_rest_does (T : Txt K mg A) : C8.Met P w K mg base 4 A.a_House "rest_does" (spDoes A) [] := by
  have c_House_states_of : C8.Met P w K mg base 3 A.a_House "states_of" (spStates K A) [] := ok_House_states_of T
  obtain ⟨fd, F, B, _⟩ := T.fn_House_rest_does
  refine ⟨_, fd, _, [], T.cl_House, T.me_House_rest_does, F.ok sc_House_rest_does (fun vs H Q E h => ?_) (fun cdv A' outer s H vs Q E hr h => ?_), B, .nil⟩
  · obtain ⟨N, h, la, m, rfl, _⟩ := h
    rfl
  · obtain ⟨N, h, la, m, rfl, hh, hk, hlen, q⟩ := h
    refine ⟨_, (pss_cons (ps_set (i := 1) sc_House_rest_does.nd rfl (Or.inl rfl) (C8.pe_mt c_House_states_of hr (by decide) (pv 0) (pa_cons (pe_fld (pv 0) rfl) pa_nil)))
      (pss_cons (ps_if (pt_cmpR op_le (pe_callB call_len_seq (by rfl) T.n_len (by decide +kernel) (pa_cons (pv 1) pa_nil)) (pe_callB call_len_seq (by rfl) T.n_len (by decide +kernel) (pa_cons (pe_fld (pv 0) rfl) pa_nil)) (nomark _))
      (pss_one (ps_ret pe_int))
      pss_nil)
      (pss_one (ps_ret (pe_ifExp (pt_cmpR op_eq (pe_op op_and (pe_ix ix_list (pv 1) (pe_un un_neg pe_int) (fun _ _ => rfl)) (pe_fld (pv 0) rfl)) (pe_fld (pv 0) rfl) (nomark _)) pe_int pe_int))))), ?_⟩
    have hh0 := hh
    obtain ⟨dx, lr, ld, xs, h1, h2, h3, h4, h5, h6, h7, h8, h9⟩ := hh
    obtain ⟨pre, cur, he⟩ := along_ne (m.rest.map m.task.act) m.now
    refine ⟨_, rfl, h, dx, _, rfl, h1, hF_no (by decide +kernel), _, rfl, h, _, dx, _, _, rfl, h1, T.cl_House, T.na_House_rest, hF_rest, N, h, la, lr, m, m.rest, rfl, hh0, .inl (.inl h4), hk, hlen, fun H1 p sm np hp => ?_⟩
    have hp0 := hp
    rw [he, nums_app] at hp
    refine ⟨_, rfl, p, _, rfl, .inl (.inl (.inl hp0)), _, rfl, h, _, dx, _, _, rfl, sm _ _ h1, T.cl_House, T.na_House_rest, hF_rest, lr, _, rfl, .inl (.inl (.inl (sm _ _ h4))), _, _, rfl, rfl, _, rfl, ?_⟩
    refine ib (c' := decide ((along (m.rest.map m.task.act) m.now).length ≤ m.rest.length)) ?_ (fun hc => ?_) (fun hc => ?_)
    · rw [nums_len, nums_len]
      exact decide_eq_decide.mpr (by omega)
    · refine qint (q H1 sm) ?_
      unfold doesN
      rw [plan_along hk, if_pos (of_decide_eq_true hc)]
      rfl
    · refine ⟨_, rfl, _, rfl, p, _, _, _, rfl, rfl, .inl (.inl hp), atI_last _ _, _, rfl, h, _, dx, _, _, rfl, sm _ _ h1, T.cl_House, T.na_House_wanted, hF_wanted, _, _, rfl, rfl, _, rfl, h, _, dx, _, _, rfl, sm _ _ h1, T.cl_House, T.na_House_wanted, hF_wanted, rfl, _, rfl, ?_⟩
      refine ib (c' := m.task.done cur) ?_ (fun hd => ?_) (fun hd => ?_)
      · show decide (V.int (Builtin.bitAnd (cur : Int) (m.task.goal : Int)) = V.int (m.task.goal : Int)) = _
        rw [band_nat, v_eq, land_comm]
        rfl
      · refine qint (q H1 sm) ?_
        unfold doesN
        rw [plan_along hk, if_neg (of_decide_eq_false hc), lastS_of he, hd]
        rfl
      · refine qint (q H1 sm) ?_
        unfold doesN
        rw [plan_along hk, if_neg (of_decide_eq_false hc), lastS_of he, hd]
        rfl
end
end Md

namespace Md
open PySem PySem.Spec PyProof.Rows L2
def Ends1 (A : Ad) (N : Addr → Prop) (H : Hp) (h la : Addr) (x : Pn12.House × Pn12.Ans) (Q : VK) : Prop := ∀ (H' : Hp) (la' p : Addr), HouseAt A N H' h la' x.1 → (la' = la ∨ H la' = none) → H' p = some (.lst ((Pn12Neutral.out x.2).map V.int)) →
  (∀ b o, H b = some o → b ≠ h → b ≠ la → H' b = some o ∧ b ≠ p) → Q (.ref p) H'
theorem Ends1.new {A : Ad} {N : Addr → Prop} {H H1 : Hp} {h la la' p : Addr} {x : Pn12.House × Pn12.Ans} {Q : VK} {vals : List V} (e : Ends1 A N H h la x Q) (hh : HouseAt A N H1 h la' x.1) (hla : la' = la ∨ H la' = none) (k : ∀ b o, H b = some o → b ≠ h → b ≠ la → H1 b = some o) (np : H1 p = none)
    (ev : vals = (Pn12Neutral.out x.2).map V.int) : Q (.ref p) (upd H1 p (.lst vals)) := by
  refine e _ la' p (hh.same (same_new np)) hla ?_ fun b o z hb hl => ⟨same_new np _ _ (k b o z hb hl), ne_of_none (k b o z hb hl) np⟩
  rw [upd_same, ev]
/-- what is told of a call -/
structure Given (A : Ad) (N : Addr → Prop) (H : Hp) (h la l : Addr) (m : Pn12.House) (ns : List Nat) : Prop where
  house : HouseAt A N H h la m
  new : ∀ b, H b = none → N b
  nl : N l
  list : H l = some (.lst (nums ns))
  ne : l ≠ la
  good : Good m
  size : m.rest.length + m.did.length ≤ 2000000
def spCall (A : Ad) (bind : List Nat → Option Pn12.Call) : Sp := fun vs H Q _ => ∃ (N : Addr → Prop) (h la l : Addr) (m : Pn12.House) (ns : List Nat) (c : Pn12.Call), vs = [.ref h, .ref l] ∧ Given A N H h la l m ns ∧ bind ns = some c ∧ Ends1 A N H h la (Pn12.step m c) Q
theorem lor_lt_iff {a b n : Nat} : a.lor b < 2 ^ n ↔ a < 2 ^ n ∧ b < 2 ^ n := by
  constructor
  · intro h
    have h1 : a ≤ a ||| b := Nat.left_le_or
    have h2 : b ≤ a ||| b := Nat.right_le_or
    have h : a ||| b < 2 ^ n := h
    omega
  · rintro ⟨h1, h2⟩
    exact Nat.or_lt_two_pow h1 h2
section
variable {P : Program} {w : World} {K : PySem.W.Frag} {mg : Str → Option Value} {base : Heap} {A : Ad}
def bBegins : List Nat → Option Pn12.Call
  | [n, s, g] => some (.begins n s g)
  | _ => none
theorem ok_answer_begins (T : Txt K mg A) : C8.CalAt P w K mg base 2 A.a_answer_begins (spCall A bBegins) := by
  have c_House_set_anew : C8.Met P w K mg base 1 A.a_House "set_anew" (spAnew A) [] := ok_House_set_anew T
  have c_all_there : C8.Cal P w K mg base 1 "all_there" spAll [] := ok_all_there T
  obtain ⟨fd, F, B, _⟩ := T.fn_answer_begins
  refine ⟨fd, _, F.ok sc_answer_begins (fun vs H Q E h => ?_) (fun cdv A' outer s H vs Q E hr h => ?_), T.kp_answer_begins, B⟩
  · obtain ⟨N, h, la, l, m, ns, c, rfl, _⟩ := h
    rfl
  · obtain ⟨N, h, la, l, m, ns, c, rfl, gv, hb, q⟩ := h
    refine ⟨_, (pss_cons (ps_set (i := 2) sc_answer_begins.nd rfl (Or.inl rfl) (pe_ix ix_list (pv 1) pe_int (fun _ _ => rfl)))
      (pss_cons (ps_set (i := 3) sc_answer_begins.nd rfl (Or.inl rfl) (pe_ix ix_list (pv 1) pe_int (fun _ _ => rfl)))
      (pss_cons (ps_set (i := 4) sc_answer_begins.nd rfl (Or.inl rfl) (pe_ix ix_list (pv 1) pe_int (fun _ _ => rfl)))
      (pss_cons (ps_if (PW.pt (pw_or (pt_cmpR op_lt (pv 2) pe_int (nomark _)) (pw_or (pt_cmpR op_gt (pv 2) (C8.pe_gc (by rfl) T.g_MOST_FACTS) (nomark _)) (pw_or1 (pt_not (pt_val (C8.pe_c c_all_there hr (by decide) (by rfl) (pa_cons (pe_op op_or (pv 3) (pv 4)) (pa_cons (pv 2) pa_nil)))))))))
      (pss_one (ps_ret (pe_lst (pa_cons (C8.pe_gc (by rfl) T.g_WRONG) pa_nil))))
      pss_nil)
      (pss_cons (ps_expr (C8.pe_mt c_House_set_anew hr (by decide) (pv 0) (pa_cons (pv 2) (pa_cons (pv 3) (pa_cons (pv 4) pa_nil)))))
      (pss_one (ps_ret (pe_lst (pa_cons pe_int pa_nil))))))))), ?_⟩
    obtain ⟨n, st, g, rfl⟩ : ∃ n st g, ns = [n, st, g] := by
      unfold bBegins at hb
      split at hb
      · exact ⟨_, _, _, rfl⟩
      · cases hb
    cases hb
    have hl : SqL K H l (nums [n, st, g]) := .inl (.inl gv.list)
    have bad : (n = 0 ∨ 5 < n ∨ 2 ^ n ≤ st ∨ 2 ^ n ≤ g) → tRet (tLst (tCons (tC (.int (-1))) tNil)) { nx := fun _ H' => Q .non H', rt := Q } [some (.ref h), some (.ref l), some (.int n), some (.int st), some (.int g)] H := fun hbad => by
      refine ⟨(by show 1 ≤ sizeLine; decide), fun p np => ?_⟩
      have e : Pn12.step m (.begins n st g) = (m, Pn12.ok (-1)) := if_pos hbad
      rw [e] at q
      exact q.new gv.house (.inl rfl) (fun b o z _ _ => z) np rfl
    refine ⟨_, rfl, l, _, 0, _, rfl, rfl, hl, atI_nat (j := 0) rfl, ?_⟩
    refine ⟨_, rfl, l, _, 1, _, rfl, rfl, hl, atI_nat (j := 1) rfl, ?_⟩
    refine ⟨_, rfl, l, _, 2, _, rfl, rfl, hl, atI_nat (j := 2) rfl, ?_⟩
    refine ⟨_, rfl, _, _, rfl, rfl, _, rfl, ib (c' := decide (n < 1)) (decide_eq_decide.mpr (by omega)) (fun c1 => ?_) (fun c1 => ?_)⟩
    · exact itrue rfl (bad (.inl (by have := of_decide_eq_true c1; omega)))
    have c1 := of_decide_eq_false c1
    refine ⟨_, rfl, _, _, rfl, rfl, _, rfl, ib (c' := decide (5 < n)) (decide_eq_decide.mpr (by omega)) (fun c2 => ?_) (fun c2 => ?_)⟩
    · exact itrue rfl (bad (.inr (.inl (of_decide_eq_true c2))))
    have c2 := of_decide_eq_false c2
    refine ⟨_, rfl, _, rfl, _, _, rfl, rfl, _, rfl, st.lor g, n, ?_, _, rfl, ?_⟩
    · exact congrArg (fun z => [V.int z, V.int (n : Int)]) (bor_nat st g)
    refine ib (c' := !decide (st.lor g < 2 ^ n)) rfl (fun c3 => ?_) (fun c3 => ?_)
    · refine bad (.inr (.inr ?_))
      have c3 : ¬ st.lor g < 2 ^ n := by simpa using c3
      rw [lor_lt_iff] at c3
      omega
    · have c3 : st.lor g < 2 ^ n := by simpa using c3
      rw [lor_lt_iff] at c3
      obtain ⟨dx, lr, ld, xs, h1, h2, h3, h4, h5, h6, h7, h8, h9⟩ := gv.house
      have e : Pn12.step m (.begins n st g) = (⟨⟨n, [], st, g⟩, st, [], []⟩, Pn12.ok 0) := if_neg (by show ¬ (n = 0 ∨ 5 < n ∨ 2 ^ n ≤ st ∨ 2 ^ n ≤ g); omega)
      rw [e] at q
      refine ⟨_, rfl, h, dx, _, rfl, h1, hF_no (by decide +kernel), _, rfl, _, rfl, _, rfl, N, h, dx, _, n, st, g, gv.new, rfl, h1, .inr ⟨_, _, _, _, _, _, rfl⟩, fun H' la' hh nla kp => ?_⟩
      refine ⟨(by show 1 ≤ sizeLine; decide), fun p np => ?_⟩
      exact q.new hh (.inr nla) (fun b o z hb _ => kp b o z hb) np rfl
end
end Md

namespace Md
open PySem PySem.Spec PyProof.Rows L2
section
variable {P : Program} {w : World} {K : PySem.W.Frag} {mg : Str → Option Value} {base : Heap} {A : Ad}
def spIsAct (K : PySem.W.Frag) : Sp := fun vs H Q _ => ∃ (l : Addr) (ns : List Nat) (n : Nat), vs = [.ref l, .int n] ∧ SqL K H l (nums ns) ∧ Q (.bl (Pn.act? n ns).isSome) H
theorem ok_is_act (T : Txt K mg A) : C8.Cal P w K mg base 2 "is_act" (spIsAct K) [] := by
  have c_all_there : C8.Cal P w K mg base 1 "all_there" spAll [] := ok_all_there T
  obtain ⟨fd, F, B, _⟩ := T.fn_is_act
  refine ⟨_, fd, _, [], F.ok sc_is_act (fun vs H Q E h => ?_) (fun cdv A' outer s H vs Q E hr h => ?_), T.g_is_act, T.kp_is_act, B, .nil⟩
  · obtain ⟨l, ns, n, rfl, _⟩ := h
    rfl
  · obtain ⟨l, ns, n, rfl, hl, q⟩ := h
    refine ⟨_, (pss_cons (ps_if (pt_cmpR op_ne (pe_callB call_len_seq (by rfl) T.n_len (by decide +kernel) (pa_cons (pv 0) pa_nil)) (C8.pe_gc (by rfl) T.g_ROW_OF_ACT) (nomark _))
      (pss_one (ps_ret pe_bl))
      pss_nil)
      (pss_cons (ps_if (pt_not (pt_val (C8.pe_c c_all_there hr (by decide) (by rfl) (pa_cons (pe_op op_or (pe_op op_or (pe_op op_or (pe_ix ix_list (pv 0) pe_int (fun _ _ => rfl)) (pe_ix ix_list (pv 0) pe_int (fun _ _ => rfl))) (pe_ix ix_list (pv 0) pe_int (fun _ _ => rfl))) (pe_ix ix_list (pv 0) pe_int (fun _ _ => rfl))) (pa_cons (pv 1) pa_nil)))))
      (pss_one (ps_ret pe_bl))
      pss_nil)
      (pss_one (ps_ret (pe_and (pe_cmpR op_le pe_int (pe_ix ix_list (pv 0) pe_int (fun _ _ => rfl)) (nomark _)) (pe_one (pe_cmpR op_le (pe_ix ix_list (pv 0) pe_int (fun _ _ => rfl)) (C8.pe_gc (by rfl) T.g_MOST_COST) (nomark _)))))))), ?_⟩
    refine ⟨_, rfl, l, _, rfl, .inl hl, rfl, _, rfl, ?_⟩
    refine ib (c' := !decide (ns.length = 5)) ?_ (fun c1 => ?_) (fun c1 => ?_)
    · rw [nums_len]
      show (!decide (V.int (ns.length : Int) = V.int 5)) = _
      rw [show decide (V.int (ns.length : Int) = V.int 5) = decide (ns.length = 5) from (v_eq _ 5).trans (by
        by_cases h : ns.length = 5
        · rw [h]
          rfl
        · rw [decide_eq_false h]
          exact beq_eq_false_iff_ne.mpr h)]
    · have c1 : ¬ ns.length = 5 := by simpa using c1
      refine qbl q ?_
      unfold Pn.act?
      split
      · exact (c1 rfl).elim
      · rfl
    have c1 : ns.length = 5 := by simpa using c1
    obtain ⟨p, r, a, d, c, rfl⟩ : ∃ p r a d c, ns = [p, r, a, d, c] := by
      match ns, c1 with
      | [p, r, a, d, c], _ => exact ⟨p, r, a, d, c, rfl⟩
    refine ⟨_, rfl, l, _, 0, _, rfl, rfl, hl, atI_nat (j := 0) rfl, _, rfl, l, _, 1, _, rfl, rfl, hl, atI_nat (j := 1) rfl, _, _, rfl, rfl, _, rfl, l, _, 2, _, rfl, rfl, hl, atI_nat (j := 2) rfl, _, _, rfl, rfl, _, rfl, l, _, 3, _, rfl, rfl, hl, atI_nat (j := 3) rfl, _, _, rfl, rfl, _, rfl, ((p.lor r).lor a).lor d, n, ?_, _, rfl, ?_⟩
    · refine congrArg (fun z => [V.int z, V.int (n : Int)]) ?_
      rw [bor_nat, bor_nat, bor_nat]
    have hr2 : (Pn.act? n [p, r, a, d, c]).isSome = (decide (((p.lor r).lor a).lor d < 2 ^ n) && (decide (1 ≤ c) && decide (c ≤ 1000))) := by
      have e : (Pn.act? n [p, r, a, d, c]).isSome = Pn.Act.right ⟨p, r, a, d, c⟩ n := by
        unfold Pn.act?
        dsimp only
        split
        · next h => rw [h]; rfl
        · next h => rw [Bool.not_eq_true] at h; rw [h]; rfl
      rw [e]
      refine Bool.eq_iff_iff.mpr ?_
      rw [right_iff]
      simp only [Bool.and_eq_true, decide_eq_true_eq, lor_lt_iff]
      exact ⟨fun h => ⟨⟨⟨⟨h.1, h.2.1⟩, h.2.2.1⟩, h.2.2.2.1⟩, h.2.2.2.2.1, h.2.2.2.2.2⟩, fun h => ⟨h.1.1.1.1, h.1.1.1.2, h.1.1.2, h.1.2, h.2.1, h.2.2⟩⟩
    rw [hr2] at q
    refine ib (c' := !decide (((p.lor r).lor a).lor d < 2 ^ n)) rfl (fun c3 => ?_) (fun c3 => ?_)
    · have c3 : decide (((p.lor r).lor a).lor d < 2 ^ n) = false := by simpa using c3
      exact qbl q (by rw [c3, Bool.false_and])
    have c3 : decide (((p.lor r).lor a).lor d < 2 ^ n) = true := by simpa using c3
    refine ⟨_, rfl, l, _, 4, _, rfl, rfl, hl, atI_nat (j := 4) rfl, _, _, rfl, rfl, _, rfl, ib (c' := decide (1 ≤ c)) (decide_eq_decide.mpr (by omega)) (fun c4 => ?_) (fun c4 => ?_)⟩
    · refine ⟨_, rfl, l, _, 4, _, rfl, rfl, hl, atI_nat (j := 4) rfl, _, _, rfl, rfl, qbl q ?_⟩
      rw [c3, c4, Bool.true_and, Bool.true_and]
      exact decide_eq_decide.mpr (by omega)
    · exact qbl q (by rw [c3, c4, Bool.true_and, Bool.false_and])
def bAct : List Nat → Option Pn12.Call := fun ns => some (.act ns)
theorem ok_answer_act (T : Txt K mg A) : C8.CalAt P w K mg base 3 A.a_answer_act (spCall A bAct) := by
  have c_is_act : C8.Cal P w K mg base 2 "is_act" (spIsAct K) [] := ok_is_act T
  have c_Act : C8.Mak P w K mg base 1 "Act" A.a_Act (spActInit K A) [] := ok_Act_init T
  obtain ⟨fd, F, B, _⟩ := T.fn_answer_act
  refine ⟨fd, _, F.ok sc_answer_act (fun vs H Q E h => ?_) (fun cdv A' outer s H vs Q E hr h => ?_), T.kp_answer_act, B⟩
  · obtain ⟨N, h, la, l, m, ns, c, rfl, _⟩ := h
    rfl
  · obtain ⟨N, h, la, l, m, ns, c, rfl, gv, hb, q⟩ := h
    refine ⟨_, (pss_cons (ps_if (pt_cmpR op_eq (pe_callB call_len_seq (by rfl) T.n_len (by decide +kernel) (pa_cons (pe_fld (pv 0) rfl) pa_nil)) (C8.pe_gc (by rfl) T.g_MOST_ACTS) (nomark _))
      (pss_one (ps_ret (pe_lst (pa_cons (C8.pe_gc (by rfl) T.g_FULL) pa_nil))))
      pss_nil)
      (pss_cons (ps_if (pt_not (pt_val (C8.pe_c c_is_act hr (by decide) (by rfl) (pa_cons (pv 1) (pa_cons (pe_fld (pv 0) rfl) pa_nil)))))
      (pss_one (ps_ret (pe_lst (pa_cons (C8.pe_gc (by rfl) T.g_WRONG) pa_nil))))
      pss_nil)
      (pss_cons (ps_expr (pe_bm PySem.F.plainAttrs_list PySem.F.slot_list_append PySem.F.type_list_append mt_append (pe_fld (pv 0) rfl) (pa_cons (C8.pe_mk c_Act hr (by decide) (by rfl) (pa_cons (pv 1) pa_nil)) pa_nil)))
      (pss_one (ps_ret (pe_lst (pa_cons (pe_op op_sub (pe_callB call_len_seq (by rfl) T.n_len (by decide +kernel) (pa_cons (pe_fld (pv 0) rfl) pa_nil)) pe_int) pa_nil))))))), ?_⟩
    cases hb
    obtain ⟨dx, lr, ld, xs, h1, h2, h3, h4, h5, h6, h7, h8, h9⟩ := gv.house
    have hl : SqL K H l (nums ns) := .inl (.inl gv.list)
    refine ⟨_, rfl, h, _, dx, _, _, rfl, h1, T.cl_House, T.na_House_acts, hF_acts, la, _, rfl, .inl (.inl (.inl h2)), rfl, _, rfl, ?_⟩
    refine ib (c' := decide (m.task.acts.length = 8)) ?_ (fun c1 => ?_) (fun c1 => ?_)
    · rw [List.length_map, h3.len]
      refine (v_eq _ 8).trans ?_
      by_cases z : m.task.acts.length = 8
      · rw [z]
        rfl
      · rw [decide_eq_false z]
        exact beq_eq_false_iff_ne.mpr z
    · refine ⟨(by show 1 ≤ sizeLine; decide), fun p np => ?_⟩
      have e : Pn12.step m (.act ns) = (m, Pn12.ok (-7)) := if_pos (of_decide_eq_true c1)
      rw [e] at q
      exact q.new gv.house (.inl rfl) (fun b o z _ _ => z) np rfl
    have c1 := of_decide_eq_false c1
    refine ⟨_, rfl, _, rfl, h, _, dx, _, _, rfl, h1, T.cl_House, T.na_House_facts, hF_facts, l, ns, m.task.facts, rfl, hl, _, rfl, ?_⟩
    refine ib (c' := !(Pn.act? m.task.facts ns).isSome) rfl (fun c2 => ?_) (fun c2 => ?_)
    · refine ⟨(by show 1 ≤ sizeLine; decide), fun p np => ?_⟩
      have e0 : Pn.act? m.task.facts ns = none := by
        cases z : Pn.act? m.task.facts ns with
        | none => rfl
        | some a => rw [z] at c2; cases c2
      have e : Pn12.step m (.act ns) = (m, Pn12.ok (-1)) := by
        show (if m.task.acts.length = 8 then _ else _) = _
        rw [if_neg c1, e0]
      rw [e] at q
      exact q.new gv.house (.inl rfl) (fun b o z _ _ => z) np rfl
    obtain ⟨a, e0, ens⟩ : ∃ a, Pn.act? m.task.facts ns = some a ∧ ns = [a.pre, a.no, a.add, a.del, a.cost] := by
      cases z : Pn.act? m.task.facts ns with
      | none => rw [z] at c2; cases c2
      | some a =>
        refine ⟨a, rfl, ?_⟩
        unfold Pn.act? at z
        split at z
        · dsimp only at z
          split at z
          · cases z
            rfl
          · cases z
        · cases z
    have e : Pn12.step m (.act ns) = ({ m with task := { m.task with acts := m.task.acts ++ [a] } }, Pn12.ok (m.task.acts.length : Nat)) := by
      show (if m.task.acts.length = 8 then _ else _) = _
      rw [if_neg c1, e0]
    rw [e] at q
    refine ⟨_, rfl, h, _, dx, _, _, rfl, h1, T.cl_House, T.na_House_acts, hF_acts, .inl ⟨rfl, _, .inl (.inl h2)⟩, _, rfl, fun x dx' nx ndx nex => ?_⟩
    have s1 : Same H (upd (upd H dx' (.own x)) x (.ins A.a_Act dx' [])) := fun b o z => by
      rw [upd_ne (ne_of_none z nx), upd_ne (ne_of_none z ndx)]
      exact z
    refine ⟨x, dx', l, a, rfl, upd_same, ?_, fun H2 hx kp => ?_⟩
    · rw [← ens]
      exact s1.seq hl
    have s2 : Same H H2 := fun b o z => kp b o (s1 b o z) (ne_of_none z nx)
    have nla : x ≠ la := fun z => by rw [z, h2] at nx; cases nx
    refine ⟨rfl, la, _, _, rfl, rfl, s2 _ _ h2, ?_, ?_⟩
    · rw [List.length_map, h3.len]
      have := gv.good.acts
      show m.task.acts.length < 2 ^ 24
      omega
    have k3 : ∀ b o, H b = some o → b ≠ la → (upd H2 la (.lst (xs.map V.ref ++ [V.ref x]))) b = some o := fun b o z hb => by
      rw [upd_ne hb]
      exact s2 b o z
    have hne : h ≠ la := ne_of h1 h2 (by intro z; cases z)
    have h1' := k3 _ _ h1 hne
    have hla' : (upd H2 la (.lst (xs.map V.ref ++ [V.ref x]))) la = some (.lst ((xs ++ [x]).map V.ref)) := by
      rw [upd_same, List.map_append]
      rfl
    refine ⟨_, rfl, h, _, dx, _, _, rfl, h1', T.cl_House, T.na_House_acts, hF_acts, la, _, rfl, .inl (.inl (.inl hla')), _, _, rfl, rfl, (by show 1 ≤ sizeLine; decide), fun p np => ?_⟩
    refine q.new (la' := la) ⟨dx, lr, ld, xs ++ [x], h1', hla', ?_, k3 _ _ h4 h6.symm, k3 _ _ h5 h7.symm, h6, h7, h8, h9⟩ (.inl rfl) (fun b o z _ hb => k3 b o z hb) np ?_
    · refine ⟨by rw [List.length_append, h3.len]; simp, fun i y b e1 e2 => ?_⟩
      have old : ∀ {y : Addr} {b : Pn.Act}, ActAt A.a_Act H y b → ActAt A.a_Act (upd H2 la (.lst (xs.map V.ref ++ [V.ref x]))) y b := fun {y b} ⟨d2, z⟩ => ⟨d2, k3 _ _ z (ne_of z h2 (by intro z; cases z))⟩
      rcases Nat.lt_or_ge i xs.length with hi | hi
      · rw [List.getElem?_append_left hi] at e1
        have e2 : m.task.acts[i]? = some b := by
          have := e2
          rw [List.getElem?_append_left (by rw [← h3.len]; exact hi)] at this
          exact this
        exact old (h3.at_ i y b e1 e2)
      · rw [List.getElem?_append_right hi] at e1
        have e2 : [a][i - m.task.acts.length]? = some b := by
          have := e2
          rw [List.getElem?_append_right (by rw [← h3.len]; exact hi)] at this
          exact this
        rw [← h3.len] at e2
        cases hd : i - xs.length with
        | zero =>
          rw [hd] at e1 e2
          cases e1
          cases e2
          exact ⟨dx', by rw [upd_ne nla]; exact hx⟩
        | succ j =>
          rw [hd] at e1
          cases e1
    · show [V.int (((xs ++ [x]).map V.ref).length - 1)] = [V.int ((m.task.acts.length : Nat) : Int)]
      rw [List.length_map, List.length_append, h3.len]
      congr 2
      simp
end
end Md

namespace Md
open PySem PySem.Spec PyProof.Rows L2
theorem cut_to (xs : List V) (n : Nat) : cutV xs none (some (n : Int)) = xs.take n := by
  unfold cutV
  rw [HT.sIx_none, HT.sIx_nat, List.drop_zero, Nat.sub_zero]
  rcases Nat.le_total n xs.length with h | h
  · rw [Nat.min_eq_left h]
  · rw [Nat.min_eq_right h, List.take_length, List.take_of_length_le h]
theorem cut_from (xs : List V) (n : Nat) : cutV xs (some (n : Int)) none = xs.drop n := by
  unfold cutV
  rw [HT.sIx_none, HT.sIx_nat]
  rcases Nat.le_total n xs.length with h | h
  · rw [Nat.min_eq_left h, List.take_of_length_le (by rw [List.length_drop]; omega)]
  · rw [Nat.min_eq_right h, List.drop_length, List.drop_of_length_le h, List.take_nil]
theorem nums_take (l : List Nat) (n : Nat) : (nums l).take n = nums (l.take n) := List.map_take.symm
theorem nums_drop (l : List Nat) (n : Nat) : (nums l).drop n = nums (l.drop n) := List.map_drop.symm
def lenR (K : PySem.W.Frag) : List V → Hp → VK → Prop := fun xs H Q => ∃ p ys, xs = [.ref p] ∧ (SqL K H p ys ∨ SqT K H p ys) ∧ Q (.int ys.length) H
theorem pair2 {a b c d : V} (h : a = b) (k : c = d) : [a, c] = [b, d] := by rw [h, k]
theorem act_ne {H : Hp} {C C' dx dx' x h : Addr} {a : Pn.Act} {v1 v2 v3 v4 v5 v6 : V} (z : H x = some (.ins C dx (aF a))) (h1 : H h = some (.ins C' dx' (hFv v1 v2 v3 v4 v5 v6))) : x ≠ h := fun e => by
  rw [e, h1] at z
  injection z with z
  injection z with _ _ z
  have := congrArg List.length z
  cases this
theorem house_inj {C dx dx5 : Addr} {a b c d a' b' c' d' : V} {lr lr5 ld ld5 : Addr} (g1 : some (HO.ins C dx (hFv a b c d (.ref lr) (.ref ld))) = some (HO.ins C dx5 (hFv a' b' c' d' (.ref lr5) (.ref ld5)))) : dx = dx5 ∧ lr = lr5 ∧ ld = ld5 := by
  injection g1 with g1
  injection g1 with _ z1 z2
  injection z2 with _ z2
  injection z2 with _ z2
  injection z2 with _ z2
  injection z2 with _ z2
  injection z2 with z3 z2
  injection z2 with z4 _
  injection z3 with _ z3
  injection z3 with z3
  injection z4 with _ z4
  injection z4 with z4
  exact ⟨z1, z3, z4⟩
/-- a value of the house set: the house behind it -/
theorem house_set {A : Ad} {N : Addr → Prop} {H H1 : Hp} {h la dx lr ld lr' ld' : Addr} {xs : List Addr} {m m' : Pn12.House} {f : Str} {v : V} (hh : HouseAt A N H h la m) (h1 : H h = some (.ins A.a_House dx (hFv (.int m.task.facts) (.int m.now) (.int m.task.goal) (.ref la) (.ref lr) (.ref ld))))
    (h2 : H la = some (.lst (xs.map V.ref))) (h3 : Acts A H xs m.task.acts) (h4 : H lr = some (.lst (nums m.rest))) (h5 : H ld = some (.lst (nums m.did))) (h6 : la ≠ lr) (h7 : la ≠ ld) (sm : Same H H1)
    (ef : putF f v (hFv (.int m.task.facts) (.int m.now) (.int m.task.goal) (.ref la) (.ref lr) (.ref ld)) = hFv (.int m'.task.facts) (.int m'.now) (.int m'.task.goal) (.ref la) (.ref lr') (.ref ld')) (ea : m'.task.acts = m.task.acts)
    (hr : H1 lr' = some (.lst (nums m'.rest))) (hd : H1 ld' = some (.lst (nums m'.did))) (nr : la ≠ lr') (nd : la ≠ ld') (n1 : N lr') (n2 : N ld') :
    HouseAt A N (upd H1 h (.ins A.a_House dx (putF f v (hFv (.int m.task.facts) (.int m.now) (.int m.task.goal) (.ref la) (.ref lr) (.ref ld))))) h la m' ∧
    (∀ b o, H b = some o → b ≠ h → (upd H1 h (.ins A.a_House dx (putF f v (hFv (.int m.task.facts) (.int m.now) (.int m.task.goal) (.ref la) (.ref lr) (.ref ld))))) b = some o) ∧
    (upd H1 h (.ins A.a_House dx (putF f v (hFv (.int m.task.facts) (.int m.now) (.int m.task.goal) (.ref la) (.ref lr) (.ref ld))))) h = some (.ins A.a_House dx (hFv (.int m'.task.facts) (.int m'.now) (.int m'.task.goal) (.ref la) (.ref lr') (.ref ld'))) := by
  have hn : ∀ {b : Addr} {ys : List V}, H1 b = some (.lst ys) → b ≠ h := fun z => ne_of z (sm _ _ h1) (by intro z; cases z)
  have k3 : ∀ b o, H b = some o → b ≠ h → (upd H1 h (.ins A.a_House dx (putF f v (hFv (.int m.task.facts) (.int m.now) (.int m.task.goal) (.ref la) (.ref lr) (.ref ld))))) b = some o := fun b o z hb => by
    rw [upd_ne hb]
    exact sm b o z
  have hh1 : (upd H1 h (.ins A.a_House dx (putF f v (hFv (.int m.task.facts) (.int m.now) (.int m.task.goal) (.ref la) (.ref lr) (.ref ld))))) h = some (.ins A.a_House dx (hFv (.int m'.task.facts) (.int m'.now) (.int m'.task.goal) (.ref la) (.ref lr') (.ref ld'))) := by rw [upd_same, ef]
  refine ⟨⟨dx, lr', ld', xs, hh1, k3 _ _ h2 (hn (sm _ _ h2)), ?_, ?_, ?_, nr, nd, n1, n2⟩, k3, hh1⟩
  · rw [ea]
    exact ⟨h3.len, fun i x a e1 e2 => by
      obtain ⟨d2, z⟩ := h3.at_ i x a e1 e2
      exact ⟨d2, k3 _ _ z (act_ne z h1)⟩⟩
  · rw [upd_ne (hn hr)]
    exact hr
  · rw [upd_ne (hn hd)]
    exact hd
section
variable {P : Program} {w : World} {K : PySem.W.Frag} {mg : Str → Option Value} {base : Heap} {A : Ad}
def bPlan : List Nat → Option Pn12.Call := fun ns => some (.plan ns)
theorem ok_answer_plan (T : Txt K mg A) : C8.CalAt P w K mg base 5 A.a_answer_plan (spCall A bPlan) := by
  have c_House_rest_does : C8.Met P w K mg base 4 A.a_House "rest_does" (spDoes A) [] := ok_House_rest_does T
  obtain ⟨fd, F, B, _⟩ := T.fn_answer_plan
  refine ⟨fd, _, F.ok sc_answer_plan (fun vs H Q E h => ?_) (fun cdv A' outer s H vs Q E hr h => ?_), T.kp_answer_plan, B⟩
  · obtain ⟨N, h, la, l, m, ns, c, rfl, _⟩ := h
    rfl
  · obtain ⟨N, h, la, l, m, ns, c, rfl, gv, hb, q⟩ := h
    refine ⟨_, (pss_cons (ps_if (pt_cmpR op_gt (pe_callB call_len_seq (by rfl) T.n_len (by decide +kernel) (pa_cons (pv 1) pa_nil)) (C8.pe_gc (by rfl) T.g_MOST_PLANNED) (nomark _))
      (pss_one (ps_ret (pe_lst (pa_cons (C8.pe_gc (by rfl) T.g_WRONG) pa_nil))))
      pss_nil)
      (pss_cons (ps_if (pt_val (pe_callB (cr_any rfl) (by rfl) T.n_any (by decide +kernel) (pa_cons (pe_lc (own := [("number", 2)]) (g := gName 2) (tt := tYes) (te := tOp (rI0 fun i j => .bl (decide (j ≤ i))) (tVar 2) (tCB (lenR K) (tCons (tFld K (tVar 0) "acts") tNil))) (by rfl) sc_answer_plan.nd (pi_list (pv 1)) (blkOk_by (own := [("number", 2)]) (N := n_answer_plan) (sc := defScope s_answer_plan) (by decide +kernel)) (fun _ _ _ _ _ => pg_name (i := 2) sc_answer_plan.nd rfl (Or.inl rfl)) (fun _ _ _ _ _ => pts_nil) (fun _ _ _ _ _ => by exact (pe_cmpR op_ge (pv 2) (pe_callB call_len_seq (by rfl) T.n_len (by decide +kernel) (pa_cons (pe_fld (pv 0) rfl) pa_nil)) (nomark _)))) pa_nil)))
      (pss_one (ps_ret (pe_lst (pa_cons (C8.pe_gc (by rfl) T.g_WRONG) pa_nil))))
      pss_nil)
      (pss_cons (ps_fld (pv 0) (pv 1) rfl)
      (pss_one (ps_ret (pe_lst (pa_cons (C8.pe_mt0 c_House_rest_does hr (by decide) (pv 0)) pa_nil))))))), ?_⟩
    cases hb
    obtain ⟨dx, lr, ld, xs, h1, h2, h3, h4, h5, h6, h7, h8, h9⟩ := gv.house
    have hl : SqL K H l (nums ns) := .inl (.inl gv.list)
    have bad : (8 < ns.length ∨ (ns.any fun k => decide (m.task.acts.length ≤ k)) = true) → ∀ H1, Same H H1 → ∀ p, H1 p = none → Q (.ref p) (upd H1 p (.lst [.int (-1)])) := fun hbad H1 sm p np => by
      have e : Pn12.step m (.plan ns) = (m, Pn12.ok (-1)) := if_pos hbad
      rw [e] at q
      exact q.new (gv.house.same sm) (.inl rfl) (fun b o z _ _ => sm b o z) np rfl
    refine ⟨_, rfl, l, _, rfl, .inl hl, _, _, rfl, rfl, _, rfl, ?_⟩
    refine ib (c' := decide (8 < ns.length)) ?_ (fun c1 => ?_) (fun c1 => ?_)
    · rw [nums_len]
      exact decide_eq_decide.mpr (by omega)
    · exact ⟨(by show 1 ≤ sizeLine; decide), bad (.inl (of_decide_eq_true c1)) H (Same.refl H)⟩
    have c1 := of_decide_eq_false c1
    refine ⟨_, rfl, l, rfl, ⟨_, hl⟩, fun D hD => lc_list (K := K) (a := l) (xs := nums ns) (fun i H' => Same H H' ∧ H' D = some (.lst (((ns.take i).map fun k => decide (m.task.acts.length ≤ k)).map V.bl))) ?_ ?_ ?_ ?_⟩
    · exact ⟨same_new hD, upd_same⟩
    · rintro i H' _ ⟨sm, _⟩
      exact sm.seq hl
    · rintro i y H' hi ⟨sm, hy⟩
      cases hn : ns[i]? with
      | none =>
        unfold nums at hi
        rw [List.getElem?_map, hn] at hi
        cases hi
      | some k =>
        have e := nums_get hn
        rw [hi] at e
        cases e
        have hil : i < ns.length := (List.getElem?_eq_some_iff.mp hn).1
        refine ⟨rfl, tyes ⟨_, rfl, _, rfl, h, _, dx, _, _, rfl, sm _ _ h1, T.cl_House, T.na_House_acts, hF_acts, la, _, rfl, .inl (.inl (.inl (sm _ _ h2))), _, _, rfl, rfl, _, hy, ?_, fun b o e => ?_, ?_⟩⟩
        · rw [List.length_map, List.length_map, List.length_take]
          show min i ns.length < 2 ^ 24
          omega
        · rw [upd_ne (ne_of_none e hD)]
          exact sm _ _ e
        · have ez : decide (((xs.map V.ref).length : Int) ≤ (k : Int)) = decide (m.task.acts.length ≤ k) := by
            rw [List.length_map, h3.len]
            exact decide_eq_decide.mpr (by omega)
          show (upd H' D (.lst (_ ++ [V.bl (decide (((xs.map V.ref).length : Int) ≤ (k : Int)))]))) D = _
          rw [upd_same, take_snoc hn, ez, List.map_append, List.map_append]
          rfl
    · rintro H' ⟨sm, hy⟩
      rw [nums_len, List.take_length] at hy
      refine ⟨D, _, rfl, .inl (.inl hy), _, rfl, ?_⟩
      refine ib (c' := ns.any fun k => decide (m.task.acts.length ≤ k)) ?_ (fun c2 => ?_) (fun c2 => ?_)
      · rw [List.any_map]
        rfl
      · exact ⟨(by show 1 ≤ sizeLine; decide), bad (.inr c2) H' sm⟩
      have hk : ∀ k ∈ ns, k < m.task.acts.length := fun k hk => by
        have := (List.any_eq_false.mp c2) k hk
        have := of_decide_eq_false (by simpa using this : decide (m.task.acts.length ≤ k) = false)
        omega
      have e : Pn12.step m (.plan ns) = ({ m with rest := ns }, Pn12.ok (if m.task.plan m.now ns = true then 1 else 0)) := if_neg (by
        rintro (z | z)
        · exact c1 z
        · rw [c2] at z
          cases z)
      rw [e] at q
      refine ⟨_, rfl, _, rfl, h, _, dx, _, rfl, sm _ _ h1, T.cl_House, T.na_House_rest, (by show 6 < 1000; decide), ?_⟩
      have k3 : ∀ b o, H b = some o → b ≠ h → (upd H' h (.ins A.a_House dx (putF "rest" (.ref l) (hFv (.int m.task.facts) (.int m.now) (.int m.task.goal) (.ref la) (.ref lr) (.ref ld))))) b = some o := fun b o z hb => by
        rw [upd_ne hb]
        exact sm b o z
      have hn : ∀ {b : Addr} {ys : List V}, H b = some (.lst ys) → b ≠ h := fun z => ne_of z h1 (by intro z; cases z)
      have hh' : HouseAt A N (upd H' h (.ins A.a_House dx (putF "rest" (.ref l) (hFv (.int m.task.facts) (.int m.now) (.int m.task.goal) (.ref la) (.ref lr) (.ref ld))))) h la { m with rest := ns } := by
        refine ⟨dx, l, ld, xs, ?_, k3 _ _ h2 (hn h2), ⟨h3.len, fun i x a e1 e2 => ?_⟩, k3 _ _ gv.list (hn gv.list), k3 _ _ h5 (hn h5), gv.ne.symm, h7, gv.nl, h9⟩
        · rw [upd_same]
          rfl
        · obtain ⟨d2, z⟩ := h3.at_ i x a e1 e2
          exact ⟨d2, k3 _ _ z (act_ne z h1)⟩
      refine ⟨_, rfl, h, dx, _, rfl, upd_same, hF_no (by decide +kernel), N, h, la, { m with rest := ns }, rfl, hh', hk, (by show ns.length ≤ 2000000; omega), fun H4 s4 => ?_⟩
      refine ⟨(by show 1 ≤ sizeLine; decide), fun p np => ?_⟩
      refine q.new (hh'.same s4) (.inl rfl) (fun b o z hb _ => s4 _ _ (k3 b o z hb)) np ?_
      show [V.int (doesN { m with rest := ns } : Nat)] = [V.int (if m.task.plan m.now ns = true then 1 else 0)]
      unfold doesN
      split <;> rfl
def bHappens : List Nat → Option Pn12.Call
  | [a, d] => some (.happens a d)
  | _ => none
theorem ok_answer_happens (T : Txt K mg A) : C8.CalAt P w K mg base 5 A.a_answer_happens (spCall A bHappens) := by
  have c_House_rest_does : C8.Met P w K mg base 4 A.a_House "rest_does" (spDoes A) [] := ok_House_rest_does T
  have c_all_there : C8.Cal P w K mg base 1 "all_there" spAll [] := ok_all_there T
  obtain ⟨fd, F, B, _⟩ := T.fn_answer_happens
  refine ⟨fd, _, F.ok sc_answer_happens (fun vs H Q E h => ?_) (fun cdv A' outer s H vs Q E hr h => ?_), T.kp_answer_happens, B⟩
  · obtain ⟨N, h, la, l, m, ns, c, rfl, _⟩ := h
    rfl
  · obtain ⟨N, h, la, l, m, ns, c, rfl, gv, hb, q⟩ := h
    refine ⟨_, (pss_cons (ps_set (i := 2) sc_answer_happens.nd rfl (Or.inl rfl) (pe_ix ix_list (pv 1) pe_int (fun _ _ => rfl)))
      (pss_cons (ps_set (i := 3) sc_answer_happens.nd rfl (Or.inl rfl) (pe_ix ix_list (pv 1) pe_int (fun _ _ => rfl)))
      (pss_cons (ps_if (pt_not (pt_val (C8.pe_c c_all_there hr (by decide) (by rfl) (pa_cons (pe_op op_or (pv 2) (pv 3)) (pa_cons (pe_fld (pv 0) rfl) pa_nil)))))
      (pss_one (ps_ret (pe_lst (pa_cons (C8.pe_gc (by rfl) T.g_WRONG) pa_nil))))
      pss_nil)
      (pss_cons (ps_fld (pv 0) (pe_op op_or (pe_op op_and (pe_fld (pv 0) rfl) (pe_un un_inv (pv 3))) (pv 2)) rfl)
      (pss_one (ps_ret (pe_lst (pa_cons (C8.pe_mt0 c_House_rest_does hr (by decide) (pv 0)) (pa_cons (pe_fld (pv 0) rfl) pa_nil))))))))), ?_⟩
    obtain ⟨a, d, rfl⟩ : ∃ a d, ns = [a, d] := by
      unfold bHappens at hb
      split at hb
      · exact ⟨_, _, rfl⟩
      · cases hb
    cases hb
    obtain ⟨dx, lr, ld, xs, h1, h2, h3, h4, h5, h6, h7, h8, h9⟩ := gv.house
    have hl : SqL K H l (nums [a, d]) := .inl (.inl gv.list)
    refine ⟨_, rfl, l, _, 0, _, rfl, rfl, hl, atI_nat (j := 0) rfl, ?_⟩
    refine ⟨_, rfl, l, _, 1, _, rfl, rfl, hl, atI_nat (j := 1) rfl, ?_⟩
    refine ⟨_, rfl, _, rfl, _, _, rfl, rfl, _, rfl, h, _, dx, _, _, rfl, h1, T.cl_House, T.na_House_facts, hF_facts, a.lor d, m.task.facts, ?_, _, rfl, ?_⟩
    · exact congrArg (fun z => [V.int z, V.int (m.task.facts : Int)]) (bor_nat a d)
    refine ib (c' := !decide (a.lor d < 2 ^ m.task.facts)) rfl (fun c3 => ?_) (fun c3 => ?_)
    · have c3 : ¬ a.lor d < 2 ^ m.task.facts := by simpa using c3
      rw [lor_lt_iff] at c3
      refine ⟨(by show 1 ≤ sizeLine; decide), fun p np => ?_⟩
      have e : Pn12.step m (.happens a d) = (m, Pn12.ok (-1)) := if_pos (by omega)
      rw [e] at q
      exact q.new gv.house (.inl rfl) (fun b o z _ _ => z) np rfl
    have c3 : a.lor d < 2 ^ m.task.facts := by simpa using c3
    rw [lor_lt_iff] at c3
    have e : Pn12.step m (.happens a d) = ({ m with now := (m.now - m.now.land d).lor a }, ⟨if m.task.plan ((m.now - m.now.land d).lor a) m.rest = true then 1 else 0, [(m.now - m.now.land d).lor a]⟩) := if_neg (by omega)
    rw [e] at q
    refine ⟨_, rfl, h, _, dx, _, _, rfl, h1, T.cl_House, T.na_House_state, hF_state, _, rfl, _, rfl, _, _, rfl, rfl, _, rfl, _, _, rfl, rfl, _, rfl, h, _, dx, _, rfl, h1, T.cl_House, T.na_House_state, (by show 6 < 1000; decide), ?_⟩
    have ev : V.int (Builtin.bitOr (Builtin.bitAnd (m.now : Int) (Builtin.bitNot (d : Int))) (a : Int)) = V.int (((m.now - m.now.land d).lor a : Nat) : Int) := by rw [bandnot_nat, bor_nat]
    obtain ⟨hh', k3, h1'⟩ := house_set (m' := { m with now := (m.now - m.now.land d).lor a }) gv.house h1 h2 h3 h4 h5 h6 h7 (H1 := H) (Same.refl H) (f := "state") (v := V.int (((m.now - m.now.land d).lor a : Nat) : Int)) (lr' := lr) (ld' := ld) rfl rfl h4 h5 h6 h7 h8 h9
    rw [← ev] at hh' k3 h1'
    refine ⟨_, rfl, h, dx, _, rfl, upd_same, hF_no (by decide +kernel), N, h, la, _, rfl, hh', gv.good.rest, (by have := gv.size; show m.rest.length ≤ 2000000; omega), fun H4 s4 => ?_⟩
    refine ⟨_, rfl, h, _, dx, _, _, rfl, s4 _ _ h1', T.cl_House, T.na_House_state, hF_state, (by show 2 ≤ sizeLine; decide), fun p np => ?_⟩
    refine q.new (hh'.same s4) (.inl rfl) (fun b o z hb _ => s4 _ _ (k3 b o z hb)) np ?_
    refine pair2 (congrArg V.int ?_) ev
    unfold doesN
    split <;> rfl
def bWants : List Nat → Option Pn12.Call
  | [g] => some (.wants g)
  | _ => none
theorem ok_answer_wants (T : Txt K mg A) : C8.CalAt P w K mg base 5 A.a_answer_wants (spCall A bWants) := by
  have c_House_rest_does : C8.Met P w K mg base 4 A.a_House "rest_does" (spDoes A) [] := ok_House_rest_does T
  have c_all_there : C8.Cal P w K mg base 1 "all_there" spAll [] := ok_all_there T
  obtain ⟨fd, F, B, _⟩ := T.fn_answer_wants
  refine ⟨fd, _, F.ok sc_answer_wants (fun vs H Q E h => ?_) (fun cdv A' outer s H vs Q E hr h => ?_), T.kp_answer_wants, B⟩
  · obtain ⟨N, h, la, l, m, ns, c, rfl, _⟩ := h
    rfl
  · obtain ⟨N, h, la, l, m, ns, c, rfl, gv, hb, q⟩ := h
    refine ⟨_, (pss_cons (ps_if (pt_not (pt_val (C8.pe_c c_all_there hr (by decide) (by rfl) (pa_cons (pe_ix ix_list (pv 1) pe_int (fun _ _ => rfl)) (pa_cons (pe_fld (pv 0) rfl) pa_nil)))))
      (pss_one (ps_ret (pe_lst (pa_cons (C8.pe_gc (by rfl) T.g_WRONG) pa_nil))))
      pss_nil)
      (pss_cons (ps_fld (pv 0) (pe_ix ix_list (pv 1) pe_int (fun _ _ => rfl)) rfl)
      (pss_one (ps_ret (pe_lst (pa_cons (C8.pe_mt0 c_House_rest_does hr (by decide) (pv 0)) pa_nil)))))), ?_⟩
    obtain ⟨g, rfl⟩ : ∃ g, ns = [g] := by
      unfold bWants at hb
      split at hb
      · exact ⟨_, rfl⟩
      · cases hb
    cases hb
    obtain ⟨dx, lr, ld, xs, h1, h2, h3, h4, h5, h6, h7, h8, h9⟩ := gv.house
    have hl : SqL K H l (nums [g]) := .inl (.inl gv.list)
    refine ⟨_, rfl, l, _, 0, _, rfl, rfl, hl, atI_nat (j := 0) rfl, _, rfl, h, _, dx, _, _, rfl, h1, T.cl_House, T.na_House_facts, hF_facts, g, m.task.facts, rfl, _, rfl, ?_⟩
    refine ib (c' := !decide (g < 2 ^ m.task.facts)) rfl (fun c3 => ?_) (fun c3 => ?_)
    · have c3 : ¬ g < 2 ^ m.task.facts := by simpa using c3
      refine ⟨(by show 1 ≤ sizeLine; decide), fun p np => ?_⟩
      have e : Pn12.step m (.wants g) = (m, Pn12.ok (-1)) := if_pos (by omega)
      rw [e] at q
      exact q.new gv.house (.inl rfl) (fun b o z _ _ => z) np rfl
    have c3 : g < 2 ^ m.task.facts := by simpa using c3
    have e : Pn12.step m (.wants g) = ({ m with task := { m.task with goal := g } }, Pn12.ok (if ({ m.task with goal := g } : Pn.Task).plan m.now m.rest = true then 1 else 0)) := if_neg (by omega)
    rw [e] at q
    refine ⟨_, rfl, l, _, 0, _, rfl, rfl, hl, atI_nat (j := 0) rfl, _, rfl, h, _, dx, _, rfl, h1, T.cl_House, T.na_House_wanted, (by show 6 < 1000; decide), ?_⟩
    obtain ⟨hh', k3, h1'⟩ := house_set (m' := { m with task := { m.task with goal := g } }) gv.house h1 h2 h3 h4 h5 h6 h7 (H1 := H) (Same.refl H) (f := "wanted") (v := V.int (g : Int)) (lr' := lr) (ld' := ld) rfl rfl h4 h5 h6 h7 h8 h9
    refine ⟨_, rfl, h, dx, _, rfl, upd_same, hF_no (by decide +kernel), N, h, la, _, rfl, hh', gv.good.rest, (by have := gv.size; show m.rest.length ≤ 2000000; omega), fun H4 s4 => ?_⟩
    refine ⟨(by show 1 ≤ sizeLine; decide), fun p np => ?_⟩
    refine q.new (hh'.same s4) (.inl rfl) (fun b o z hb _ => s4 _ _ (k3 b o z hb)) np ?_
    refine congrArg (fun y => [V.int y]) ?_
    unfold doesN
    dsimp only
    split <;> rfl
/-- the rest gone through, by the states along it -/
theorem go_along (t : Pn.Task) : ∀ (n s : Nat) (l d : List Nat), (∀ k ∈ l, k < t.acts.length) →
    Pn12.go t n s l d = (lastS ((l.take n).map t.act) s, l.drop ((along ((l.take n).map t.act) s).length - 1), d ++ l.take ((along ((l.take n).map t.act) s).length - 1))
  | 0, s, l, d, _ => by
    show (s, l, d) = _
    rw [List.take_zero]
    show _ = (s, l.drop 0, d ++ l.take 0)
    rw [List.drop_zero, List.take_zero, List.append_nil]
  | n + 1, s, [], d, _ => by
    show (s, [], d) = (s, _, d ++ List.take 0 [])
    simp
  | n + 1, s, k :: l, d, h => by
    have hk : k < t.acts.length := h k (List.mem_cons_self ..)
    unfold Pn12.go
    rw [can_act hk, List.take_succ_cons, List.map_cons]
    cases e : (t.act k).may s with
    | false =>
      rw [if_neg Bool.false_ne_true]
      have e2 : along (t.act k :: (l.take n).map t.act) s = [] ++ [s] := by rw [along_cons, e, if_neg Bool.false_ne_true]; rfl
      rw [lastS_of e2, e2]
      simp
    | true =>
      rw [if_pos rfl, go_along t n _ l (d ++ [k]) fun j hj => h j (List.mem_cons_of_mem _ hj), lastS_cons e, along_cons, e, if_pos rfl]
      obtain ⟨pre, cur, e3⟩ := along_ne ((l.take n).map t.act) ((t.act k).then_ s)
      rw [e3]
      have e4 : (s :: (pre ++ [cur])).length - 1 = ((pre ++ [cur]).length - 1) + 1 := by simp
      rw [e4, List.drop_succ_cons, List.take_succ_cons, List.append_assoc]
      rfl
def bGoes : List Nat → Option Pn12.Call
  | [n] => some (.goes n)
  | _ => none
theorem ok_answer_goes (T : Txt K mg A) : C8.CalAt P w K mg base 4 A.a_answer_goes (spCall A bGoes) := by
  have c_House_states_of : C8.Met P w K mg base 3 A.a_House "states_of" (spStates K A) [] := ok_House_states_of T
  obtain ⟨fd, F, B, _⟩ := T.fn_answer_goes
  refine ⟨fd, _, F.ok sc_answer_goes (fun vs H Q E h => ?_) (fun cdv A' outer s H vs Q E hr h => ?_), T.kp_answer_goes, B⟩
  · obtain ⟨N, h, la, l, m, ns, c, rfl, _⟩ := h
    rfl
  · obtain ⟨N, h, la, l, m, ns, c, rfl, gv, hb, q⟩ := h
    refine ⟨_, (pss_cons (ps_set (i := 2) sc_answer_goes.nd rfl (Or.inl rfl) (C8.pe_mt c_House_states_of hr (by decide) (pv 0) (pa_cons (pe_slice sl_list (pe_fld (pv 0) rfl) po_none (po_some (pe_ix ix_list (pv 1) pe_int (fun _ _ => rfl)))) pa_nil)))
      (pss_cons (ps_set (i := 3) sc_answer_goes.nd rfl (Or.inl rfl) (pe_op op_sub (pe_callB call_len_seq (by rfl) T.n_len (by decide +kernel) (pa_cons (pv 2) pa_nil)) pe_int))
      (pss_cons (ps_fld (pv 0) (pe_op op_cat (pe_fld (pv 0) rfl) (pe_slice sl_list (pe_fld (pv 0) rfl) po_none (po_some (pv 3)))) rfl)
      (pss_cons (ps_fld (pv 0) (pe_slice sl_list (pe_fld (pv 0) rfl) (po_some (pv 3)) po_none) rfl)
      (pss_cons (ps_fld (pv 0) (pe_ix ix_list (pv 2) (pe_un un_neg pe_int) (fun _ _ => rfl)) rfl)
      (pss_one (ps_ret (pe_lst (pa_cons (pv 3) (pa_cons (pe_fld (pv 0) rfl) (pa_cons (pe_callB call_len_seq (by rfl) T.n_len (by decide +kernel) (pa_cons (pe_fld (pv 0) rfl) pa_nil)) pa_nil))))))))))), ?_⟩
    obtain ⟨n, rfl⟩ : ∃ n, ns = [n] := by
      unfold bGoes at hb
      split at hb
      · exact ⟨_, rfl⟩
      · cases hb
    cases hb
    obtain ⟨dx, lr, ld, xs, h1, h2, h3, h4, h5, h6, h7, h8, h9⟩ := gv.house
    have hl : SqL K H l (nums [n]) := .inl (.inl gv.list)
    have hsz := gv.size
    refine ⟨_, rfl, h, dx, _, rfl, h1, hF_no (by decide +kernel), _, rfl, h, _, dx, _, _, rfl, h1, T.cl_House, T.na_House_rest, hF_rest, _, rfl, l, _, 0, _, rfl, rfl, hl, atI_nat (j := 0) rfl, _, rfl, lr, _, rfl, .inl (.inl h4), fun c nc => ?_⟩
    rw [cut_to, nums_take]
    have s1 : Same H (upd H c (.lst (nums (m.rest.take n)))) := same_new nc
    refine ⟨N, h, la, c, m, m.rest.take n, rfl, gv.house.same s1, .inl (.inl upd_same), fun k hk => gv.good.rest k (List.mem_of_mem_take hk), ?_, fun H2 p s2 np hp => ?_⟩
    · rw [List.length_take]
      omega
    have s12 := s1.trans s2
    obtain ⟨pre, cur, he⟩ := along_ne ((m.rest.take n).map m.task.act) m.now
    have hgo : pre.length = (along ((m.rest.take n).map m.task.act) m.now).length - 1 := by
      rw [he]
      simp
    have e : Pn12.step m (.goes n) = ({ m with now := cur, rest := m.rest.drop pre.length, did := m.did ++ m.rest.take pre.length }, ⟨((m.rest.take pre.length).length : Nat), [cur, (m.rest.drop pre.length).length]⟩) := by
      show (let x := Pn12.go m.task n m.now m.rest []; (({ m with now := x.1, rest := x.2.1, did := m.did ++ x.2.2 } : Pn12.House), (⟨(x.2.2.length : Nat), [x.1, x.2.1.length]⟩ : Pn12.Ans))) = _
      rw [go_along m.task n m.now m.rest [] gv.good.rest, lastS_of he, ← hgo]
      rfl
    rw [e] at q
    have hpl : pre.length ≤ (m.rest.take n).length := by
      have := along_len ((m.rest.take n).map m.task.act) m.now
      rw [List.length_map] at this
      omega
    rw [List.length_take] at hpl
    have hlen : (m.rest.take pre.length).length = pre.length := by
      rw [List.length_take]
      omega
    have hp0 := hp
    rw [he, nums_app] at hp
    -- gone = len(states) - 1
    refine ⟨_, rfl, p, _, rfl, .inl (.inl (.inl hp)), _, _, rfl, rfl, ?_⟩
    have eg : ((nums pre ++ nums [cur]).length : Int) - 1 = (pre.length : Int) := by
      rw [List.length_append, nums_len, nums_len]
      simp
    dsimp only
    rw [eg]
    -- house.done = house.done + house.rest[:gone]
    refine ⟨_, rfl, h, _, dx, _, _, rfl, s12 _ _ h1, T.cl_House, T.na_House_done, hF_done, _, rfl, h, _, dx, _, _, rfl, s12 _ _ h1, T.cl_House, T.na_House_rest, hF_rest, _, rfl, _, rfl, lr, _, rfl, .inl (.inl (s12 _ _ h4)), fun c2 nc2 => ?_⟩
    rw [cut_to, nums_take]
    have s3 : Same H (upd H2 c2 (.lst (nums (m.rest.take pre.length)))) := s12.trans (same_new nc2)
    refine ⟨ld, c2, _, _, rfl, rfl, s3 _ _ h5, upd_same, ?_, fun p2 np2 => ?_⟩
    · rw [nums_len, nums_len, List.length_take]
      show m.did.length + min pre.length m.rest.length ≤ 2 ^ 24
      omega
    have s4 : Same H (upd (upd H2 c2 (.lst (nums (m.rest.take pre.length)))) p2 (.lst (nums m.did ++ nums (m.rest.take pre.length)))) := s3.trans (same_new np2)
    have s24 : Same H2 (upd (upd H2 c2 (.lst (nums (m.rest.take pre.length)))) p2 (.lst (nums m.did ++ nums (m.rest.take pre.length)))) := (same_new nc2).trans (same_new np2)
    have hp4 := s24 _ _ hp
    have hp2 : (upd (upd H2 c2 (.lst (nums (m.rest.take pre.length)))) p2 (.lst (nums m.did ++ nums (m.rest.take pre.length)))) p2 = some (.lst (nums (m.did ++ m.rest.take pre.length))) := by rw [upd_same, nums_app]
    generalize upd (upd H2 c2 (.lst (nums (m.rest.take pre.length)))) p2 (.lst (nums m.did ++ nums (m.rest.take pre.length))) = H4 at s4 hp4 hp2
    have nla2 : la ≠ p2 := fun z => by
      rw [← z] at np2
      rw [s3 _ _ h2] at np2
      cases np2
    refine ⟨_, rfl, h, _, dx, _, rfl, s4 _ _ h1, T.cl_House, T.na_House_done, (by show 6 < 1000; decide), ?_⟩
    obtain ⟨hh5, k5, h15⟩ := house_set (m' := { m with did := m.did ++ m.rest.take pre.length }) gv.house h1 h2 h3 h4 h5 h6 h7 (H1 := H4) s4 (f := "done") (v := V.ref p2) (lr' := lr) (ld' := p2) rfl rfl (s4 _ _ h4) hp2 h6 nla2 h8 (gv.new _ (s3.free np2))
    have hp5 : (upd H4 h (.ins A.a_House dx (putF "done" (.ref p2) (hFv (.int m.task.facts) (.int m.now) (.int m.task.goal) (.ref la) (.ref lr) (.ref ld))))) p = some (.lst (nums pre ++ nums [cur])) := by
      rw [upd_ne (ne_of hp4 (s4 _ _ h1) (by intro z; cases z))]
      exact hp4
    generalize upd H4 h (.ins A.a_House dx (putF "done" (.ref p2) (hFv (.int m.task.facts) (.int m.now) (.int m.task.goal) (.ref la) (.ref lr) (.ref ld)))) = H5 at hh5 k5 h15 hp5
    -- house.rest = house.rest[gone:]
    obtain ⟨dx5, lr5, ld5, xs5, g1, g2, g3, g4, g5, g6, g7, g8, g9⟩ := hh5
    rw [h15] at g1
    obtain ⟨rfl, rfl, rfl⟩ := house_inj g1
    refine ⟨_, rfl, h, _, dx, _, _, rfl, h15, T.cl_House, T.na_House_rest, hF_rest, _, rfl, _, rfl, lr, _, rfl, .inl (.inl g4), fun c3 nc3 => ?_⟩
    rw [cut_from, nums_drop]
    have s6 : Same H5 (upd H5 c3 (.lst (nums (m.rest.drop pre.length)))) := same_new nc3
    have hc3 : (upd H5 c3 (.lst (nums (m.rest.drop pre.length)))) c3 = some (.lst (nums (m.rest.drop pre.length))) := upd_same
    have hn3 : H c3 = none := by
      cases e : H c3 with
      | none => rfl
      | some o =>
        rw [k5 _ _ e fun z => by rw [z, h15] at nc3; cases nc3] at nc3
        cases nc3
    have nla3 : la ≠ c3 := fun z => by
      rw [← z, g2] at nc3
      cases nc3
    generalize upd H5 c3 (.lst (nums (m.rest.drop pre.length))) = H6 at s6 hc3
    refine ⟨_, rfl, h, _, dx, _, rfl, s6 _ _ h15, T.cl_House, T.na_House_rest, (by show 6 < 1000; decide), ?_⟩
    obtain ⟨hh7, k7, h17⟩ := house_set (m := { m with did := m.did ++ m.rest.take pre.length }) (m' := { m with rest := m.rest.drop pre.length, did := m.did ++ m.rest.take pre.length }) ⟨dx, lr, p2, xs5, h15, g2, g3, g4, g5, g6, g7, g8, g9⟩ h15 g2 g3 g4 g5 g6 g7 (H1 := H6) s6 (f := "rest") (v := V.ref c3) (lr' := c3) (ld' := p2) rfl rfl hc3 (s6 _ _ g5) nla3 g7 (gv.new _ hn3) g9
    have hp7 : (upd H6 h (.ins A.a_House dx (putF "rest" (.ref c3) (hFv (.int m.task.facts) (.int m.now) (.int m.task.goal) (.ref la) (.ref lr) (.ref p2))))) p = some (.lst (nums pre ++ nums [cur])) := by
      rw [upd_ne (ne_of hp5 h15 (by intro z; cases z))]
      exact s6 _ _ hp5
    generalize upd H6 h (.ins A.a_House dx (putF "rest" (.ref c3) (hFv (.int m.task.facts) (.int m.now) (.int m.task.goal) (.ref la) (.ref lr) (.ref p2)))) = H7 at hh7 k7 h17 hp7
    obtain ⟨dx7, lr7, ld7, xs7, j1, j2, j3, j4, j5, j6, j7, j8, j9⟩ := hh7
    rw [h17] at j1
    obtain ⟨rfl, rfl, rfl⟩ := house_inj j1
    -- house.state = states[-1]
    refine ⟨_, rfl, _, rfl, p, _, _, _, rfl, rfl, .inl (.inl hp7), atI_last (nums pre) (V.int (cur : Int)), _, rfl, h, _, dx, _, rfl, h17, T.cl_House, T.na_House_state, (by show 6 < 1000; decide), ?_⟩
    obtain ⟨hh8, k8, h18⟩ := house_set (m := { m with rest := m.rest.drop pre.length, did := m.did ++ m.rest.take pre.length }) (m' := { m with now := cur, rest := m.rest.drop pre.length, did := m.did ++ m.rest.take pre.length }) ⟨dx, c3, p2, xs7, h17, j2, j3, j4, j5, j6, j7, j8, j9⟩ h17 j2 j3 j4 j5 j6 j7 (H1 := H7) (Same.refl H7) (f := "state") (v := V.int (cur : Int)) (lr' := c3) (ld' := p2) rfl rfl j4 j5 j6 j7 j8 j9
    have hc8 : (upd H7 h (.ins A.a_House dx (putF "state" (.int (cur : Int)) (hFv (.int m.task.facts) (.int m.now) (.int m.task.goal) (.ref la) (.ref c3) (.ref p2))))) c3 = some (.lst (nums (m.rest.drop pre.length))) := k8 _ _ j4 (ne_of j4 h17 (by intro z; cases z))
    refine ⟨_, rfl, _, rfl, h, _, dx, _, _, rfl, h18, T.cl_House, T.na_House_state, hF_state, _, rfl, h, _, dx, _, _, rfl, h18, T.cl_House, T.na_House_rest, hF_rest, c3, _, rfl, .inl (.inl (.inl hc8)), (by show 3 ≤ sizeLine; decide), fun r nr => ?_⟩
    refine q.new hh8 (.inl rfl) (fun b o z hb _ => k8 _ _ (k7 _ _ (k5 _ _ z hb) hb) hb) nr ?_
    show [V.int (pre.length : Int), V.int (cur : Int), V.int ((nums (m.rest.drop pre.length)).length : Int)] = [V.int (((m.rest.take pre.length).length : Nat) : Int), V.int (cur : Int), V.int ((m.rest.drop pre.length).length : Int)]
    rw [hlen, nums_len]
end
end Md

namespace Md
open PySem PySem.Spec PyProof.Rows L2
def sizeV (p : Nat) : V := match size p with
  | some n => .int n
  | none => .non
/-- the slot holds a def with one of these promises -/
def tCallP (i : Nat) (S : Addr → Sp → Prop) (t : TA) : TE := fun σ H Q => ∃ f sp, σ[i]? = some (some (.ref f)) ∧ S f sp ∧ t σ H fun vs H1 => sp vs H1 Q E0
theorem pe_callP {X : Cx} {k i : Nat} {x : Str} {p pos : Pos} {e : Expr} {es : List Expr} {t : TA} {S : Addr → Sp → Prop} (h : ∀ f sp, S f sp → C8.CalAt X.prog X.w X.K X.mg X.base k f sp) (hr : Room k X.A) (hN : X.N[i]? = some x) (hv : Vis X.env.scope x) (ha : PA X (e :: es) t)
    (h1 : (x == ("__debug__" : Str)) = false := by decide) (h2 : (x == ("__classdict__" : Str)) = false := by decide) (h3 : starEach (e :: es) X.env = (false, eval e X.env) :: starEach es X.env := by rfl) (h4 : (backTo pos (starEach es X.env)).any (·.1) = false := by rfl) :
    PE X (.Call (.Name x p) (e :: es) [] pos) (tCallP i S t) := by
  refine ⟨fun pins s σ H Q I ⟨f, sp, hs, hS, ht⟩ => ?_⟩
  have held : ∀ g sp', (if g = f then some sp else none) = some sp' → Held X.prog X.w X.K X.mg X.base k g sp' := fun g sp' z => by
    by_cases hg : g = f
    · rw [if_pos hg] at z
      cases z
      subst hg
      exact ⟨(h _ _ hS).ex⟩
    · rw [if_neg hg] at z
      cases z
  exact (pe_callA (i := i) (S := fun g => if g = f then some sp else none) held hr hN hv ha h1 h2 h3 h4).run pins s σ H Q I ⟨f, sp, hs, if_pos rfl, ht⟩
/-- a class made without arguments -/
theorem pe_mk0 {X : Cx} {k j : Nat} {C : Addr} {x : Str} {sp : Sp} {p pos : Pos} (c : C8.Mak X.prog X.w X.K X.mg X.base k x C sp []) (hr : Room j X.A) (hk : k + 1 ≤ j) (hg : Gl X x) (hdb : (x == ("__debug__" : Str)) = false := by decide) :
    PE X (.Call (.Name x p) [] [] pos) (tMake C sp [] E0 tNil) := by
  obtain ⟨f, fd, ps, ds, M, F, hm, b, d⟩ := c.ex
  exact pe_make0 M F (hr.mono hk) hg hm b d pass0 hdb
structure Entry (P : Program) (w : World) (K : PySem.W.Frag) (mg : Str → Option Value) (base : Heap) (A : Ad) (cl : List V) (p : Nat) : Prop where
  ex : ∃ (e f : Addr), cl[p]? = some (.ref e) ∧ (∀ H : Hp, SqT K H e [.ref f, sizeV p]) ∧ C8.CalAt P w K mg base 9 f (spCall A (bind p))
def ints' (l : List Int) : List V := l.map V.int
/-- what is due from here on -/
def due (m : Pn12.House) (cs : List (List (List Int))) : List Int := PyFlat.told (PyFlat.played Pn12Neutral.step m (cs.map PyPn12.whole))
def spAnswers (K : PySem.W.Frag) : Sp := fun vs H Q _ => ∃ (a : Addr) (ns : List Nat) (cs : List (List (List Int))), vs = [.ref a] ∧ SqL K H a (nums ns) ∧ (∃ f, PyFlat.calls PyPn12.shape f (cast ns) = some cs) ∧ cs.length ≤ 60 ∧ Pn12Neutral.many Pn12.init (cs.map PyPn12.whole) ≤ 1000000 ∧
  ∀ (H' : Hp) (p : Addr), H' p = some (.lst (ints' (due Pn12.init cs))) → Q (.ref p) H'
theorem calls_nil {f : Nat} {cs : List (List (List Int))} (h : PyFlat.calls PyPn12.shape f (cast []) = some cs) : cs = [] := by
  cases f <;> (cases h; rfl)
theorem calls_cons {f : Nat} {p : Nat} {r : List Nat} {cs : List (List (List Int))} (h : PyFlat.calls PyPn12.shape f (cast (p :: r)) = some cs) : ∃ c t' f' cs', PyFlat.call PyPn12.shape (cast (p :: r)) = some (c, t') ∧ PyFlat.calls PyPn12.shape f' t' = some cs' ∧ cs = c :: cs' := by
  cases f with
  | zero => cases h
  | succ f =>
    rw [cast_cons] at h
    unfold PyFlat.calls at h
    rw [← cast_cons] at h
    cases e : PyFlat.call PyPn12.shape (cast (p :: r)) with
    | none =>
      rw [e] at h
      cases h
    | some x =>
      obtain ⟨c, t⟩ := x
      rw [e] at h
      dsimp only at h
      cases e2 : PyFlat.calls PyPn12.shape f t with
      | none =>
        rw [e2] at h
        cases h
      | some cs' =>
        rw [e2] at h
        cases h
        exact ⟨c, t, f, cs', rfl, e2, rfl⟩
theorem due_cons {m : Pn12.House} {c : List (List Int)} {cs : List (List (List Int))} {x : Pn12.Call} (h : Pn12Neutral.callOf (PyPn12.whole c) = some x) : due m (c :: cs) = ((Pn12Neutral.out (Pn12.step m x).2).length : Int) :: (Pn12Neutral.out (Pn12.step m x).2 ++ due (Pn12.step m x).1 cs) := by
  have e : Pn12Neutral.step m (PyPn12.whole c) = ((Pn12.step m x).1, Pn12Neutral.out (Pn12.step m x).2) := by
    unfold Pn12Neutral.step
    rw [h]
  show PyFlat.told ((Pn12Neutral.step m (PyPn12.whole c)).2 :: PyFlat.played Pn12Neutral.step (Pn12Neutral.step m (PyPn12.whole c)).1 (cs.map PyPn12.whole)) = _
  rw [e]
  rfl
theorem many_cons {m : Pn12.House} {c : List (List Int)} {cs : List (List (List Int))} {x : Pn12.Call} (h : Pn12Neutral.callOf (PyPn12.whole c) = some x) : Pn12Neutral.many m ((c :: cs).map PyPn12.whole) = (Pn12Neutral.out (Pn12.step m x).2).length + Pn12Neutral.many (Pn12.step m x).1 (cs.map PyPn12.whole) := by
  have e : Pn12Neutral.step m (PyPn12.whole c) = ((Pn12.step m x).1, Pn12Neutral.out (Pn12.step m x).2) := by
    unfold Pn12Neutral.step
    rw [h]
  show (Pn12Neutral.step m (PyPn12.whole c)).2.length + Pn12Neutral.many (Pn12Neutral.step m (PyPn12.whole c)).1 (cs.map PyPn12.whole) = _
  rw [e]
theorem cut_mid (xs : List V) (i n : Nat) : cutV xs (some (i : Int)) (some ((i + n : Nat) : Int)) = (xs.drop i).take n := by
  unfold cutV
  rw [HT.sIx_nat, HT.sIx_nat]
  rcases Nat.le_total i xs.length with h | h
  · rw [Nat.min_eq_left h]
    rcases Nat.le_total (i + n) xs.length with h2 | h2
    · rw [Nat.min_eq_left h2, Nat.add_sub_cancel_left]
    · rw [Nat.min_eq_right h2, List.take_of_length_le (by rw [List.length_drop]; omega), List.take_of_length_le (by rw [List.length_drop]; omega)]
  · rw [Nat.min_eq_right h, List.drop_of_length_le h, List.drop_of_length_le (Nat.le_refl _), List.take_nil, List.take_nil]
/-- between two turns -/
structure Turn (A : Ad) (ns : List Nat) (whole : List Int) (ho la an : Addr) (i : Nat) (H : Hp) (m : Pn12.House) (cs : List (List (List Int))) (out : List Int) (a j : Nat) : Prop where
  le : i ≤ ns.length
  calls : ∃ f, PyFlat.calls PyPn12.shape f (cast (ns.drop i)) = some cs
  house : HouseAt A (fun b => b ≠ an) H ho la m
  ans : H an = some (.lst (ints' out))
  ne : an ≠ la
  good : Good m
  due : out ++ due m cs = whole
  few : j + cs.length ≤ 60
  many : a + Pn12Neutral.many m (cs.map PyPn12.whole) ≤ 1000000
  size : m.rest.length + m.did.length ≤ a + 8 * j
  len : out.length ≤ a + j
end Md

namespace Md
open PySem PySem.Spec PyProof.Rows L2
def Frz (H H' : Hp) : Prop := ∀ b o u, H b = some (.frz o u) → H' b = some (.frz o u)
def spAns (K : PySem.W.Frag) : Sp := fun vs H Q _ => ∃ (a : Addr) (ns : List Nat) (cs : List (List (List Int))), vs = [.ref a] ∧ (∀ H', Frz H H' → SqL K H' a (nums ns)) ∧ (∃ f, PyFlat.calls PyPn12.shape f (cast ns) = some cs) ∧ cs.length ≤ 60 ∧ Pn12Neutral.many Pn12.init (cs.map PyPn12.whole) ≤ 1000000 ∧
  ∀ (H' : Hp) (p : Addr), H' p = some (.lst (ints' (due Pn12.init cs))) → Q (.ref p) H'
theorem drop_more {l args t : List Nat} {i p : Nat} (h : l.drop i = p :: (args ++ t)) : l[i]? = some p ∧ l.drop (i + 1) = args ++ t ∧ (l.drop (i + 1)).take args.length = args ∧ l.drop (i + 1 + args.length) = t ∧ i + 1 + args.length ≤ l.length := by
  have h1 : l[i]? = some p := by
    have := congrArg (fun z : List Nat => z[0]?) h
    simpa using this
  have h2 : l.drop (i + 1) = args ++ t := by
    have := congrArg (fun z : List Nat => z.drop 1) h
    simpa [Nat.add_comm] using this
  refine ⟨h1, h2, by rw [h2, List.take_left], ?_, ?_⟩
  · rw [← List.drop_drop, h2, List.drop_left]
  · have := congrArg List.length h
    rw [List.length_drop, List.length_cons, List.length_append] at this
    omega
section
variable {P : Program} {w : World} {K : PySem.W.Frag} {mg : Str → Option Value} {base : Heap} {A : Ad}
theorem ok_answers (T : Txt K mg A) {cl : List V} (hcl : ∀ H, SqT K H A.a_CALLS cl) (ent : ∀ p, p < 12 → Entry P w K mg base A cl p) {fd : FuncData} (F : Fun K "answers" "answers" s_answers A.a_answers fd) : FnOk P w K mg base CX0 10 A.a_answers fd ["calls"] (spAns K) := by
  have c_House : C8.Mak P w K mg base 2 "House" A.a_House (spHouseInit A) [] := ok_House_init T
  have c_answer : ∀ f sp, C8.CalAt P w K mg base 9 f sp → C8.CalAt P w K mg base 9 f sp := fun _ _ z => z
  refine F.ok sc_answers (fun vs H Q E h => ?_) (fun cdv A' outer s H vs Q E hr h => ?_)
  · obtain ⟨a, ns, cs, rfl, _⟩ := h
    rfl
  · obtain ⟨a, ns, cs, rfl, hS, hcs, h60, hmany, q⟩ := h
    refine ⟨_, (pss_cons (ps_set (i := 1) sc_answers.nd rfl (Or.inl rfl) (pe_mk0 c_House hr (by decide) (by rfl)))
      (pss_cons (ps_set (i := 2) sc_answers.nd rfl (Or.inl rfl) (pe_lst pa_nil))
      (pss_cons (ps_set (i := 3) sc_answers.nd rfl (Or.inl rfl) pe_int)
      (pss_cons (ps_while PassesOwn.never (pt_cmpR op_lt (pv 3) (pe_callB call_len_seq (by rfl) T.n_len (by decide +kernel) (pa_cons (pv 0) pa_nil)) (nomark _))
      (pss_cons (ps_set (i := 4) sc_answers.nd rfl (Or.inl rfl) (pe_ix ix_tup (pe_ix ix_tup (C8.pe_gc (by rfl) T.g_CALLS) (pe_ix ix_list (pv 0) (pv 3) (fun _ _ => rfl)) (fun _ _ => rfl)) pe_int (fun _ _ => rfl)))
        (pss_cons (ps_set (i := 5) sc_answers.nd rfl (Or.inl rfl) (pe_ix ix_tup (pe_ix ix_tup (C8.pe_gc (by rfl) T.g_CALLS) (pe_ix ix_list (pv 0) (pv 3) (fun _ _ => rfl)) (fun _ _ => rfl)) pe_int (fun _ _ => rfl)))
        (pss_cons (ps_aug (i := 3) sc_answers.nd rfl (Or.inl rfl) pe_int ip_add)
        (C8.pss_cut (ps_if (pt_cmpR op_isN (pv 5) pe_non (nomark _))
        (pss_cons (ps_set (i := 5) sc_answers.nd rfl (Or.inl rfl) (pe_ix ix_list (pv 0) (pv 3) (fun _ _ => rfl)))
          (pss_one (ps_aug (i := 3) sc_answers.nd rfl (Or.inl rfl) pe_int ip_add)))
        pss_nil)
        (pss_cons (ps_set (i := 6) sc_answers.nd rfl (Or.inl rfl) (pe_callP c_answer hr (i := 4) rfl (Or.inl rfl) (pa_cons (pv 1) (pa_cons (pe_slice sl_list (pv 0) (po_some (pv 3)) (po_some (pe_op op_add (pv 3) (pv 5)))) pa_nil))))
        (pss_cons (ps_aug (i := 3) sc_answers.nd rfl (Or.inl rfl) (pv 5) ip_add)
        (pss_cons (ps_expr (pe_bm PySem.F.plainAttrs_list PySem.F.slot_list_append PySem.F.type_list_append mt_append (pv 2) (pa_cons (pe_callB call_len_seq (by rfl) T.n_len (by decide +kernel) (pa_cons (pv 6) pa_nil)) pa_nil)))
        (pss_one (ps_expr (pe_bm PySem.F.plainAttrs_list PySem.F.slot_list_extend PySem.F.type_list_extend mt_extend (pv 2) (pa_cons (pv 6) pa_nil))))))))))))
      (pss_one (ps_ret (pv 2))))))), ?_⟩
    -- house = House()
    intro ho dho nho ndho neho
    refine ⟨ho, dho, rfl, upd_same, fun H1 la0 hh1 nla0 kp1 => ⟨rfl, ?_⟩⟩
    have s1 : Same H H1 := Same.made nho ndho kp1
    -- answered = []; at = 0
    refine ⟨Nat.zero_le _, fun an nan => ?_⟩
    have s2 : Same H1 (upd H1 an (.lst [])) := same_new nan
    have nela : an ≠ la0 := fun z => by
      obtain ⟨dx, lr, ld, xs, h1, h2, _⟩ := hh1
      rw [z, h2] at nan
      cases nan
    have frz0 : Frz H (upd H1 an (.lst [])) := fun b o u z => s2 _ _ (s1 _ _ z)
    refine while_by (fun σ H' => ∃ (i : Nat) (la : Addr) (m : Pn12.House) (cs' : List (List (List Int))) (out : List Int) (x j : Nat) (v4 v5 v6 : Option V), σ = [some (.ref a), some (.ref ho), some (.ref an), some (.int (i : Int)), v4, v5, v6] ∧ Turn A ns (due Pn12.init cs) ho la an i H' m cs' out x j ∧ Frz H H')
      (fun σ _ => match σ with | [_, _, _, some (.int z), _, _, _] => ns.length - z.toNat | _ => 0) ?_ ?_ ?_
    · refine ⟨0, la0, Pn12.init, cs, [], 0, 0, none, none, none, rfl, ⟨Nat.zero_le _, hcs, (hh1.ne nan).same s2, upd_same, nela, good_init, rfl, by omega, by omega, Nat.zero_le _, Nat.zero_le _⟩, frz0⟩
    · rintro σ H' ⟨i, la, m, cs', out, x, j, v4, v5, v6, rfl, tu, fz⟩
      refine ⟨_, rfl, _, rfl, a, _, rfl, .inl (hS _ fz), _, _, rfl, rfl, _, rfl, ?_⟩
      refine ib (c' := decide (i < ns.length)) ?_ (fun c1 => ?_) (fun c1 => ?_)
      · rw [nums_len]
        exact decide_eq_decide.mpr (by omega)
      · have c1 := of_decide_eq_true c1
        obtain ⟨f0, hc⟩ := tu.calls
        rw [List.drop_eq_getElem_cons c1] at hc
        obtain ⟨c, t', f1, cs2, hc1, hc2, rfl⟩ := calls_cons hc
        obtain ⟨t, rfl, ⟨p, args, call, hp12, hb, hcall, hform⟩⟩ := first_of hc1
        rw [← List.drop_eq_getElem_cons c1] at hform
        obtain ⟨e, f, he, hsq, hok⟩ := (ent p hp12).ex
        -- the place of the call's numbers
        obtain ⟨i1, hi1, hpl, htk, hdr, hle⟩ : ∃ i1, ((∃ n, size p = some n ∧ args.length = n ∧ i1 = i + 1) ∨ (size p = none ∧ i1 = i + 2 ∧ ns[i + 1]? = some args.length)) ∧ ns[i]? = some p ∧ (ns.drop i1).take args.length = args ∧ ns.drop (i1 + args.length) = t ∧ i1 + args.length ≤ ns.length := by
          rcases hform with ⟨n, hz, hn, hl⟩ | ⟨hz, hl⟩
          · obtain ⟨k1, k2, k3, k4, k5⟩ := drop_more hl
            exact ⟨i + 1, .inl ⟨n, hz, hn, rfl⟩, k1, k3, k4, k5⟩
          · obtain ⟨k1, k2, k3, k4, k5⟩ := drop_more (args := args.length :: args) hl
            obtain ⟨g1, g2, g3, g4, g5⟩ := drop_more (args := args) (t := t) k2
            exact ⟨i + 2, .inr ⟨hz, rfl, g1⟩, k1, g3, g4, g5⟩
        have hsN := hS _ fz
        -- answer = CALLS[calls[at]][0]; size = CALLS[calls[at]][1]
        refine ⟨_, rfl, _, rfl, a, _, _, _, rfl, rfl, hsN, atI_nat (nums_get hpl), A.a_CALLS, cl, _, _, rfl, rfl, hcl _, atI_nat he, e, _, 0, _, rfl, rfl, hsq _, atI_nat (j := 0) rfl, ?_⟩
        refine ⟨_, rfl, _, rfl, a, _, _, _, rfl, rfl, hsN, atI_nat (nums_get hpl), A.a_CALLS, cl, _, _, rfl, rfl, hcl _, atI_nat he, e, _, 1, _, rfl, rfl, hsq _, atI_nat (j := 1) rfl, ?_⟩
        refine ⟨_, rfl, _, _, rfl, rfl, ?_⟩
        -- if size is None
        refine ⟨fun σ' H2 => H2 = H' ∧ σ' = [some (.ref a), some (.ref ho), some (.ref an), some (.int (i1 : Int)), some (.ref f), some (.int (args.length : Int)), v6], ?_, ?_⟩
        · refine ⟨_, rfl, rfl, _, rfl, ?_⟩
          rcases hi1 with ⟨n, hz, hn, rfl⟩ | ⟨hz, rfl, hg⟩
          · have ev : sizeV p = .int (n : Int) := by unfold sizeV; rw [hz]
            refine ib (c' := false) ?_ (fun z => by cases z) (fun _ => ?_)
            · rw [ev]
              rfl
            · refine ⟨rfl, ?_⟩
              rw [hn, ← ev]
              rfl
          · have ev : sizeV p = .non := by unfold sizeV; rw [hz]
            refine ib (c' := true) ?_ (fun _ => ?_) (fun z => by cases z)
            · rw [ev]
              rfl
            · refine ⟨_, rfl, _, rfl, a, _, ((i + 1 : Nat) : Int), _, rfl, rfl, hsN, atI_nat (nums_get hg), ?_⟩
              refine ⟨_, rfl, _, _, rfl, rfl, rfl, ?_⟩
              rfl
        · rintro σ' H2 ⟨rfl, rfl⟩
          have hsz : m.rest.length + m.did.length ≤ 2000000 := by
            have := tu.size
            have := tu.many
            have := tu.few
            omega
          obtain ⟨dx, lr, ld, xs, h1, h2, h3, h4, h5, h6, h7, h8, h9⟩ := tu.house
          -- numbers = answer(house, calls[at:at + size])
          refine ⟨f, _, rfl, hok, _, rfl, _, rfl, _, rfl, _, rfl, _, rfl, _, rfl, _, _, rfl, rfl, _, rfl, a, _, rfl, hsN, fun cc ncc => ?_⟩
          have ecut : cutV (nums ns) (some (i1 : Int)) (some ((i1 : Int) + (args.length : Int))) = nums args := by
            rw [show (i1 : Int) + (args.length : Int) = ((i1 + args.length : Nat) : Int) from rfl, cut_mid, nums_drop, nums_take, htk]
          have s3 : Same H2 (upd H2 cc (.lst (nums args))) := same_new ncc
          have ncla : cc ≠ la := fun z => by
            rw [z, h2] at ncc
            cases ncc
          rw [ecut]
          refine ⟨_, ho, la, cc, m, args, call, rfl, ⟨tu.house.same s3, fun b z y => (by rw [y, s3 _ _ tu.ans] at z; cases z), (fun z => by rw [z, tu.ans] at ncc; cases ncc), upd_same, ncla, tu.good, hsz⟩, hb, fun H3 la' pr hh' hla' hpr kp => ?_⟩
          have hanho : an ≠ ho := ne_of tu.ans h1 (by intro z; cases z)
          have k3 : ∀ b o, H2 b = some o → b ≠ ho → b ≠ la → H3 b = some o ∧ b ≠ pr := fun b o z hb hl => kp b o (s3 _ _ z) hb hl
          obtain ⟨han3, napr⟩ := k3 _ _ tu.ans hanho tu.ne
          -- at += size
          refine ⟨_, rfl, _, rfl, _, _, rfl, rfl, ?_⟩
          have hlo := tu.len
          have hmn := tu.many
          have hfw := tu.few
          rw [many_cons hcall] at hmn
          rw [List.length_cons] at hfw
          -- answered.append(len(numbers))
          refine ⟨_, rfl, .inl ⟨rfl, _, .inl (.inl han3)⟩, _, rfl, pr, _, rfl, .inl (.inl (.inl hpr)), an, _, _, rfl, rfl, han3, ?_, ?_⟩
          · show (out.map V.int).length < 2 ^ 24
            rw [List.length_map]
            omega
          -- answered.extend(numbers)
          have hpr4 : (upd H3 an (.lst (ints' out ++ [V.int (((Pn12Neutral.out (Pn12.step m call).2).map V.int).length : Int)]))) pr = some (.lst ((Pn12Neutral.out (Pn12.step m call).2).map V.int)) := by
            rw [upd_ne napr.symm]
            exact hpr
          refine ⟨_, rfl, .inl ⟨rfl, _, .inl (.inl upd_same)⟩, _, rfl, an, pr, _, _, rfl, rfl, upd_same, hpr4, ?_, ?_⟩
          · rw [List.length_append, List.length_map]
            show (out.map V.int).length + 1 + (Pn12Neutral.out (Pn12.step m call).2).length ≤ 2 ^ 24
            rw [List.length_map]
            omega
          -- the next turn
          obtain ⟨gd, gs⟩ := step_good tu.good call
          have nela' : an ≠ la' := by
            rcases hla' with z | z
            · rw [z]
              exact tu.ne
            · exact fun y => by
                rw [← y] at z
                rw [s3 _ _ tu.ans] at z
                cases z
          have nho' : an ≠ ho := hanho
          have k5 : ∀ b o, H3 b = some o → b ≠ an → (upd (upd H3 an (.lst (ints' out ++ [V.int (((Pn12Neutral.out (Pn12.step m call).2).map V.int).length : Int)]))) an (.lst (ints' out ++ [V.int (((Pn12Neutral.out (Pn12.step m call).2).map V.int).length : Int)] ++ (Pn12Neutral.out (Pn12.step m call).2).map V.int))) b = some o := fun b o z hb => by
            rw [upd_ne hb, upd_ne hb]
            exact z
          have hh6 : HouseAt A (fun b => b ≠ an) (upd (upd H3 an (.lst (ints' out ++ [V.int (((Pn12Neutral.out (Pn12.step m call).2).map V.int).length : Int)]))) an (.lst (ints' out ++ [V.int (((Pn12Neutral.out (Pn12.step m call).2).map V.int).length : Int)] ++ (Pn12Neutral.out (Pn12.step m call).2).map V.int))) ho la' (Pn12.step m call).1 := by
            obtain ⟨dx', lr', ld', xs', g1, g2, g3, g4, g5, g6, g7, g8, g9⟩ := hh'
            refine ⟨dx', lr', ld', xs', k5 _ _ g1 (Ne.symm hanho), k5 _ _ g2 (Ne.symm nela'), ⟨g3.len, fun y z b e1 e2 => ?_⟩, k5 _ _ g4 g8, k5 _ _ g5 g9, g6, g7, g8, g9⟩
            obtain ⟨d2, z2⟩ := g3.at_ y z b e1 e2
            exact ⟨d2, k5 _ _ z2 (ne_of z2 han3 (by intro z; cases z))⟩
          refine ⟨⟨i1 + args.length, la', (Pn12.step m call).1, cs2, out ++ ((Pn12Neutral.out (Pn12.step m call).2).length : Int) :: Pn12Neutral.out (Pn12.step m call).2, x + (Pn12Neutral.out (Pn12.step m call).2).length, j + 1, some (.ref f), some (.int (args.length : Int)), some (.ref pr), rfl, ⟨hle, ⟨f1, by rw [hdr]; exact hc2⟩, hh6, ?_, nela', gd, ?_, by omega, by omega, ?_, ?_⟩, fun b o u z => ?_⟩, ?_⟩
          · rw [upd_same]
            unfold ints'
            rw [List.map_append, List.map_cons, List.length_map, List.append_assoc]
            rfl
          · have := tu.due
            rw [due_cons hcall] at this
            rw [← this, List.append_assoc]
            rfl
          · have := tu.size
            omega
          · rw [List.length_append, List.length_cons]
            omega
          · have z2 := fz b o u z
            have n1 : b ≠ ho := ne_of z2 h1 (by intro z; cases z)
            have n2 : b ≠ la := ne_of z2 h2 (by intro z; cases z)
            have n3 : b ≠ an := ne_of z2 tu.ans (by intro z; cases z)
            exact k5 _ _ (k3 _ _ z2 n1 n2).1 n3
          · show ns.length - ((i1 : Int) + (args.length : Int)).toNat < ns.length - (i : Int).toNat
            have hi2 : i < i1 := by
              rcases hi1 with ⟨n, _, _, z⟩ | ⟨_, z, _⟩ <;> omega
            omega
      · have c1 := of_decide_eq_false c1
        have hd : ns.drop i = [] := List.drop_of_length_le (by omega)
        obtain ⟨f0, hc⟩ := tu.calls
        rw [hd] at hc
        obtain rfl := calls_nil hc
        refine ⟨_, rfl, q _ an ?_⟩
        have := tu.due
        rw [show due m [] = [] from rfl, List.append_nil] at this
        rw [← this]
        exact tu.ans
    · rintro σ H Q Q' hq ⟨v, e1, u, e2, p, ys, e3, e4, i, j, e5, e6, k, e7, z⟩
      exact ⟨v, e1, u, e2, p, ys, e3, e4, i, j, e5, e6, k, e7, hq _ _ z⟩
end
end Md

namespace Md
open PySem PySem.Spec PyProof.Rows L2
theorem ask_of {l : List Int} (h : PyPn12.answers_asked l = true) : ∃ cs, PyFlat.calls PyPn12.shape l.length l = some cs ∧ cs.length ≤ 60 ∧ Pn12Neutral.many Pn12.init (cs.map PyPn12.whole) ≤ 1000000 ∧ (cs.map PyPn12.whole).countP Pn12Neutral.isNear ≤ 8 ∧ due Pn12.init cs = PyPn12.answers l := by
  unfold PyPn12.answers_asked at h
  cases e : PyFlat.calls PyPn12.shape l.length l with
  | none =>
    rw [e] at h
    cases h
  | some cs =>
    rw [e] at h
    dsimp only at h
    simp only [Bool.and_eq_true] at h
    obtain ⟨⟨⟨⟨_, h2⟩, _⟩, h4⟩, _⟩ := h
    unfold Pn12Neutral.asked at h4
    simp only [Bool.and_eq_true, decide_eq_true_eq] at h4
    refine ⟨cs, rfl, of_decide_eq_true h2, h4.2.2.2, ?_, ?_⟩
    · rw [List.countP_eq_length_filter]
      exact h4.2.2.1.2
    · unfold PyPn12.answers PyPn12.calls due
      rw [e]
      rfl
end Md

/-! How the program finds what the rest needs, and the first of the cheapest plans: plain Lean, no program. -/
namespace Md
open Pn (Act Task)
open Pn12
/-- one act back: what has to be so, what mustn't -/
def nbStep (a : Act) (x : Nat × Nat) : Option (Nat × Nat) :=
  if x.1.land (a.del - a.del.land a.add) ≠ 0 ∨ x.2.land a.add ≠ 0 then none else some ((x.1 - x.1.land a.add).lor a.pre, (x.2 - x.2.land (a.del - a.del.land a.add)).lor a.no)
def nb (g : Nat) : List Act → Option (Nat × Nat)
  | [] => some (g, 0)
  | a :: r => (nb g r).bind (nbStep a)
def nbEnd (x : Nat × Nat) : Option (Nat × Nat) := if x.1.land x.2 ≠ 0 then none else some x
theorem land_of_bit {a b i : Nat} (h1 : a.testBit i = true) (h2 : b.testBit i = true) : a.land b ≠ 0 := fun z => by
  have := land_eq z i h1
  rw [h2] at this
  cases this
theorem nb_needs {t : Task} : ∀ (l : List Nat), (∀ k ∈ l, k < t.acts.length) → (nb t.goal (l.map t.act)).bind nbEnd = needs t l
  | [], _ => by
    show nbEnd (t.goal, 0) = some (t.goal, 0)
    unfold nbEnd
    have : t.goal.land 0 = 0 := Nat.and_zero _
    rw [if_neg (fun h => h this)]
  | k :: l, h => by
    have hk : ¬ t.acts.length ≤ k := Nat.not_le.mpr (h k (List.mem_cons_self ..))
    have ih := nb_needs l fun j hj => h j (List.mem_cons_of_mem _ hj)
    unfold needs
    rw [if_neg hk, ← ih, List.map_cons]
    show ((nb t.goal (l.map t.act)).bind (nbStep (t.act k))).bind nbEnd = _
    cases e : nb t.goal (l.map t.act) with
    | none => rfl
    | some x =>
      show (nbStep (t.act k) x).bind nbEnd = match nbEnd x with
        | none => none
        | some x => _
      by_cases hx : x.1.land x.2 ≠ 0
      · have e1 : nbEnd x = none := if_pos hx
        rw [e1]
        unfold nbStep
        split
        · rfl
        · next hc =>
          have hc1 : x.1.land ((t.act k).del - (t.act k).del.land (t.act k).add) = 0 := Classical.byContradiction fun z => hc (.inl z)
          have hc2 : x.2.land (t.act k).add = 0 := Classical.byContradiction fun z => hc (.inr z)
          obtain ⟨i, h1, h2⟩ := land_ne hx
          have n1 := land_eq hc1 i h1
          have n2 := land_eq hc2 i h2
          refine if_pos (land_of_bit (i := i) ?_ ?_)
          · show ((x.1 - x.1.land (t.act k).add).lor (t.act k).pre).testBit i = true
            rw [lor_bit, sub_bit, h1, n2]
            rfl
          · show ((x.2 - x.2.land ((t.act k).del - (t.act k).del.land (t.act k).add)).lor (t.act k).no).testBit i = true
            rw [lor_bit, sub_bit, h2, n1]
            rfl
      · have e1 : nbEnd x = some x := if_neg hx
        rw [e1]
        unfold nbStep
        dsimp only
        split
        · rfl
        · rfl
/-! ### the first of the cheapest -/
/-- cheaper; or as dear, and the same or first -/
def LeP (t : Task) (a b : List Nat) : Prop := t.price a < t.price b ∨ (t.price a = t.price b ∧ (a = b ∨ less a b = true))
theorem LeP.refl (t : Task) (a : List Nat) : LeP t a a := .inr ⟨rfl, .inl rfl⟩
theorem LeP.trans {t : Task} {a b c : List Nat} (h1 : LeP t a b) (h2 : LeP t b c) : LeP t a c := by
  rcases h1 with h1 | ⟨e1, h1⟩
  · rcases h2 with h2 | ⟨e2, _⟩
    · exact .inl (by omega)
    · exact .inl (by omega)
  · rcases h2 with h2 | ⟨e2, h2⟩
    · exact .inl (by omega)
    · refine .inr ⟨by omega, ?_⟩
      rcases h1 with rfl | h1
      · exact h2
      · rcases h2 with rfl | h2
        · exact .inr h1
        · exact .inr (less_trans h1 h2)
theorem price_pos {t : Task} (W : WF t) : ∀ {l : List Nat}, (∀ k ∈ l, k < t.acts.length) → l ≠ [] → 0 < t.price l
  | [], _, h => (h rfl).elim
  | k :: l, h, _ => by
    rw [price_cons]
    have := (W.act (h k (List.mem_cons_self ..))).2.2.2.2.1
    omega
/-- a row that is first and as dear is first with the same behind it -/
theorem less_more {t : Task} (W : WF t) (r : List Nat) : ∀ {a b : List Nat}, (∀ k ∈ b, k < t.acts.length) → t.price a = t.price b → less a b = true → less (a ++ r) (b ++ r) = true
  | [], [], _, _, h => by cases h
  | [], b :: bs, hb, e, _ => by
    have := price_pos W hb (List.cons_ne_nil _ _)
    rw [← e, price_nil] at this
    omega
  | _ :: _, [], _, _, h => by cases h
  | a :: as, b :: bs, hb, e, h => by
    rw [less_cons_iff] at h
    rw [List.cons_append, List.cons_append, less_cons_iff]
    rcases h with h | ⟨rfl, h⟩
    · exact .inl h
    · refine .inr ⟨rfl, less_more W r (fun k hk => hb k (List.mem_cons_of_mem _ hk)) ?_ h⟩
      rw [price_cons, price_cons] at e
      omega
theorem LeP.more {t : Task} (W : WF t) {a b : List Nat} (r : List Nat) (hb : ∀ k ∈ b, k < t.acts.length) (h : LeP t a b) : LeP t (a ++ r) (b ++ r) := by
  unfold LeP at h ⊢
  rw [price_append, price_append]
  rcases h with h | ⟨e, rfl | h⟩
  · exact .inl (by omega)
  · exact .inr ⟨rfl, .inl rfl⟩
  · exact .inr ⟨by omega, .inr (less_more W r hb e h)⟩
/-- a row is no worse than what goes on from it -/
theorem LeP.on {t : Task} (W : WF t) {a : List Nat} (r : List Nat) (hr : ∀ k ∈ r, k < t.acts.length) : LeP t a (a ++ r) := by
  by_cases h : r = []
  · subst h
    rw [List.append_nil]
    exact LeP.refl t a
  · refine .inl ?_
    rw [price_append]
    have := price_pos W hr h
    omega
/-- what holds of the ways that wait (W) and of those from which was gone on (E), between two turns -/
structure Dij (t : Task) (s0 : Nat) (W : List (List Nat × Nat)) (E : List (Nat × List Nat)) : Prop where
  way : ∀ x ∈ W, t.goes s0 x.1 = some x.2
  from_ : ∀ y ∈ E, t.goes s0 y.2 = some y.1 ∧ t.done y.1 = false
  nodup : (E.map (·.1)).Nodup
  next : ∀ y ∈ E, ∀ k, t.can y.1 k = true → (y.2 ++ [k], (t.act k).then_ y.1) ∈ W ∨ ∃ l, ((t.act k).then_ y.1, l) ∈ E ∧ LeP t l (y.2 ++ [k])
  first : ([], s0) ∈ W ∨ (s0, []) ∈ E
  le : ∀ y ∈ E, ∀ x ∈ W, LeP t y.2 x.1
  len : ∀ x ∈ W, x.1.length ≤ E.length
theorem dij_init (t : Task) (s0 : Nat) : Dij t s0 [([], s0)] [] where
  way := fun x h => by
    rw [List.mem_singleton] at h
    subst h
    rfl
  from_ := fun y h => by cases h
  nodup := List.nodup_nil
  next := fun y h => by cases h
  first := .inl (List.mem_singleton_self _)
  le := fun y h => by cases h
  len := fun x h => by
    rw [List.mem_singleton] at h
    subst h
    exact Nat.le_refl _
theorem goes_snoc {t : Task} {s u k : Nat} {l : List Nat} (h : t.goes s l = some u) (hk : t.can u k = true) : t.goes s (l ++ [k]) = some ((t.act k).then_ u) := by
  rw [goes_append]
  refine ⟨u, h, ?_⟩
  rw [goes_cons, if_pos hk]
  rfl
/-- every plan is covered by one that goes on from a way that waits -/
theorem Dij.from_e {t : Task} (F : WF t) {s0 : Nat} {W : List (List Nat × Nat)} {E : List (Nat × List Nat)} (D : Dij t s0 W E) : ∀ (r : List Nat) (y : Nat × List Nat), y ∈ E → t.plan y.1 r = true → ∃ x ∈ W, ∃ r', t.plan x.2 r' = true ∧ LeP t (x.1 ++ r') (y.2 ++ r)
  | [], y, hy, h => by
    rw [plan_nil, (D.from_ y hy).2] at h
    cases h
  | k :: r, y, hy, h => by
    rw [plan_cons_iff] at h
    have e : y.2 ++ k :: r = (y.2 ++ [k]) ++ r := by simp
    rcases D.next y hy k h.1 with hw | ⟨l, hl, hle⟩
    · exact ⟨_, hw, r, h.2, by rw [e]; exact LeP.refl _ _⟩
    · obtain ⟨x, hx, r', h1, h2⟩ := D.from_e F r _ hl h.2
      refine ⟨x, hx, r', h1, h2.trans ?_⟩
      rw [e]
      exact hle.more F r (goes_acts (goes_snoc (D.from_ y hy).1 h.1))
theorem Dij.cover {t : Task} (F : WF t) {s0 : Nat} {W : List (List Nat × Nat)} {E : List (Nat × List Nat)} (D : Dij t s0 W E) {r : List Nat} (h : t.plan s0 r = true) : ∃ x ∈ W, ∃ r', t.plan x.2 r' = true ∧ LeP t (x.1 ++ r') r := by
  rcases D.first with hw | he
  · exact ⟨_, hw, r, h, LeP.refl _ _⟩
  · exact D.from_e F r _ he h
theorem Dij.no {t : Task} (F : WF t) {s0 : Nat} {E : List (Nat × List Nat)} (D : Dij t s0 [] E) : IsFirst t s0 none := fun l => by
  cases e : t.plan s0 l with
  | false => rfl
  | true =>
    obtain ⟨x, hx, _⟩ := D.cover F e
    cases hx
theorem plan_acts {t : Task} {s : Nat} {l : List Nat} (h : t.plan s l = true) : ∀ k ∈ l, k < t.acts.length := by
  obtain ⟨u, h1, _⟩ := plan_iff.mp h
  exact goes_acts h1
theorem Dij.yes {t : Task} (F : WF t) {s0 : Nat} {W : List (List Nat × Nat)} {E : List (Nat × List Nat)} (D : Dij t s0 W E) {x : List Nat × Nat} (hx : x ∈ W) (hd : t.done x.2 = true) (hm : ∀ y ∈ W, LeP t x.1 y.1) : IsFirst t s0 (some x.1) := by
  have all : ∀ l, t.plan s0 l = true → LeP t x.1 l := fun l h => by
    obtain ⟨y, hy, r, h1, h2⟩ := D.cover F h
    exact (hm y hy).trans ((LeP.on F r (plan_acts h1)).trans h2)
  refine ⟨plan_iff.mpr ⟨_, D.way x hx, hd⟩, fun l h => ?_, fun l h e => ?_⟩
  · rcases all l h with h | ⟨e, _⟩ <;> omega
  · rcases all l h with h | ⟨_, h | h⟩
    · omega
    · exact .inl h.symm
    · exact .inr h
theorem mem_erase {α : Type} {l : List α} {j : Nat} {x y : α} (hj : l[j]? = some x) (hy : y ∈ l) : y = x ∨ y ∈ l.eraseIdx j := by
  obtain ⟨i, hi, e⟩ := List.getElem_of_mem hy
  by_cases h : i = j
  · subst h
    rw [List.getElem?_eq_getElem hi] at hj
    left
    rw [← e]
    exact Option.some.inj hj
  · right
    rw [List.mem_eraseIdx_iff_getElem?]
    exact ⟨i, h, by rw [List.getElem?_eq_getElem hi, e]⟩
/-- the least way leads to where was gone on from -/
theorem Dij.drop {t : Task} {s0 : Nat} {W : List (List Nat × Nat)} {E : List (Nat × List Nat)} (D : Dij t s0 W E) {x : List Nat × Nat} {j : Nat} {le : List Nat} (hj : W[j]? = some x) (he : (x.2, le) ∈ E) : Dij t s0 (W.eraseIdx j) E where
  way := fun y h => D.way y (List.mem_of_mem_eraseIdx h)
  from_ := D.from_
  nodup := D.nodup
  next := fun y hy k hk => by
    rcases D.next y hy k hk with h | h
    · rcases mem_erase hj h with z | z
      · refine .inr ⟨le, ?_, ?_⟩
        · rw [← z] at he
          exact he
        · have := D.le _ he x (List.mem_of_getElem? hj)
          rw [← z] at this
          exact this
      · exact .inl z
    · exact .inr h
  first := by
    rcases D.first with h | h
    · rcases mem_erase hj h with z | z
      · right
        have := D.le _ he x (List.mem_of_getElem? hj)
        rw [← z] at this he
        rcases this with h | ⟨_, h | h⟩
        · rw [price_nil] at h
          omega
        · rw [show le = [] from h] at he
          exact he
        · rw [less_nil] at h
          cases h
      · exact .inl z
    · exact .inr h
  le := fun y hy z hz => D.le y hy z (List.mem_of_mem_eraseIdx hz)
  len := fun y h => D.len y (List.mem_of_mem_eraseIdx h)
/-- what is gone on with from a way -/
def onward (t : Task) (x : List Nat × Nat) : List (List Nat × Nat) := (List.range t.acts.length).filterMap fun k => if (t.act k).may x.2 = true then some (x.1 ++ [k], (t.act k).then_ x.2) else none
theorem mem_onward {t : Task} {x y : List Nat × Nat} : y ∈ onward t x ↔ ∃ k, t.can x.2 k = true ∧ y = (x.1 ++ [k], (t.act k).then_ x.2) := by
  unfold onward
  rw [List.mem_filterMap]
  constructor
  · rintro ⟨k, hk, h⟩
    split at h
    · next hm =>
      cases h
      exact ⟨k, can_iff.mpr ⟨List.mem_range.mp hk, hm⟩, rfl⟩
    · cases h
  · rintro ⟨k, hk, rfl⟩
    obtain ⟨h1, h2⟩ := can_iff.mp hk
    exact ⟨k, List.mem_range.mpr h1, if_pos h2⟩
theorem onward_len (t : Task) (x : List Nat × Nat) : (onward t x).length ≤ t.acts.length := by
  unfold onward
  refine Nat.le_trans (List.length_filterMap_le _ _) ?_
  rw [List.length_range]
  exact Nat.le_refl _
/-- the least way leads to a new state, from which is gone on -/
theorem Dij.go {t : Task} (F : WF t) {s0 : Nat} {W : List (List Nat × Nat)} {E : List (Nat × List Nat)} (D : Dij t s0 W E) {x : List Nat × Nat} {j : Nat} (hj : W[j]? = some x) (hm : ∀ y ∈ W, LeP t x.1 y.1) (hn : x.2 ∉ E.map (·.1)) (hd : t.done x.2 = false) :
    Dij t s0 (W.eraseIdx j ++ onward t x) (E ++ [(x.2, x.1)]) where
  way := fun y h => by
    rcases List.mem_append.mp h with h | h
    · exact D.way y (List.mem_of_mem_eraseIdx h)
    · obtain ⟨k, hk, rfl⟩ := mem_onward.mp h
      exact goes_snoc (D.way x (List.mem_of_getElem? hj)) hk
  from_ := fun y h => by
    rcases List.mem_append.mp h with h | h
    · exact D.from_ y h
    · rw [List.mem_singleton] at h
      subst h
      exact ⟨D.way x (List.mem_of_getElem? hj), hd⟩
  nodup := by
    rw [List.map_append]
    refine List.nodup_append.mpr ⟨D.nodup, List.nodup_cons.mpr ⟨fun h => (by cases h), List.nodup_nil⟩, ?_⟩
    intro a ha b hb e
    subst e
    have : a = x.2 := by simpa using hb
    exact hn (this ▸ ha)
  next := fun y hy k hk => by
    rcases List.mem_append.mp hy with hy | hy
    · rcases D.next y hy k hk with h | ⟨l, h1, h2⟩
      · rcases mem_erase hj h with z | z
        · refine .inr ⟨x.1, ?_, ?_⟩
          · rw [← z]
            exact List.mem_append_right _ (List.mem_singleton_self _)
          · rw [← z]
            exact LeP.refl _ _
        · exact .inl (List.mem_append_left _ z)
      · exact .inr ⟨l, List.mem_append_left _ h1, h2⟩
    · rw [List.mem_singleton] at hy
      subst hy
      exact .inl (List.mem_append_right _ (mem_onward.mpr ⟨k, hk, rfl⟩))
  first := by
    rcases D.first with h | h
    · rcases mem_erase hj h with z | z
      · right
        rw [← z]
        exact List.mem_append_right _ (List.mem_singleton_self _)
      · exact .inl (List.mem_append_left _ z)
    · exact .inr (List.mem_append_left _ h)
  le := fun y hy z hz => by
    have on : ∀ k, t.can x.2 k = true → LeP t x.1 (x.1 ++ [k]) := fun k hk => LeP.on F [k] fun j hj => by
      rw [List.mem_singleton] at hj
      subst hj
      exact (can_iff.mp hk).1
    rcases List.mem_append.mp hy with hy | hy
    · rcases List.mem_append.mp hz with hz | hz
      · exact D.le y hy z (List.mem_of_mem_eraseIdx hz)
      · obtain ⟨k, hk, rfl⟩ := mem_onward.mp hz
        exact (D.le y hy x (List.mem_of_getElem? hj)).trans (on k hk)
    · rw [List.mem_singleton] at hy
      subst hy
      rcases List.mem_append.mp hz with hz | hz
      · exact hm z (List.mem_of_mem_eraseIdx hz)
      · obtain ⟨k, hk, rfl⟩ := mem_onward.mp hz
        exact on k hk
  len := fun z hz => by
    rw [List.length_append]
    rcases List.mem_append.mp hz with hz | hz
    · exact Nat.le_succ_of_le (D.len z (List.mem_of_mem_eraseIdx hz))
    · obtain ⟨k, hk, rfl⟩ := mem_onward.mp hz
      have := D.len x (List.mem_of_getElem? hj)
      rw [List.length_append]
      simp
      exact this
/-- no more states than there are -/
theorem Dij.few {t : Task} (F : WF t) {s0 : Nat} (h0 : s0 < 2 ^ t.facts) {W : List (List Nat × Nat)} {E : List (Nat × List Nat)} (D : Dij t s0 W E) : E.length ≤ 2 ^ t.facts := by
  have := nodup_le (2 ^ t.facts) (E.map (·.1)) D.nodup fun v hv => by
    obtain ⟨y, hy, rfl⟩ := List.mem_map.mp hv
    exact goes_lt F h0 (D.from_ y hy).1
  rw [List.length_map] at this
  exact this
end Md

/-! How the program finds the nearest plan: layer by layer, by how far it is. Plain Lean, no program. -/
namespace Md
open Pn (Act Task)
open Pn12
/-- the best of the pairs of each state that is not among the seen ones -/
structure BW (ps : List (Nat × Way)) (seen : List Nat) (D : List (Nat × Way)) : Prop where
  nodup : (D.map (·.1)).Nodup
  sound : ∀ p ∈ D, p ∈ ps ∧ p.1 ∉ seen ∧ ∀ q ∈ ps, q.1 = p.1 → Le p.2 q.2
  all : ∀ q ∈ ps, q.1 ∉ seen → ∃ p ∈ D, p.1 = q.1
theorem bw_nil (seen : List Nat) : BW [] seen [] := ⟨List.nodup_nil, fun p h => (by cases h), fun q h => (by cases h)⟩
/-- a pair that is passed over -/
theorem BW.skip {ps : List (Nat × Way)} {seen : List Nat} {D : List (Nat × Way)} (B : BW ps seen D) {q : Nat × Way} (h : q.1 ∈ seen ∨ ∃ o, (q.1, o) ∈ D ∧ Le o q.2) : BW (ps ++ [q]) seen D where
  nodup := B.nodup
  sound := fun p hp => by
    obtain ⟨h1, h2, h3⟩ := B.sound p hp
    refine ⟨List.mem_append_left _ h1, h2, fun r hr e => ?_⟩
    rcases List.mem_append.mp hr with hr | hr
    · exact h3 r hr e
    · rw [List.mem_singleton] at hr
      subst hr
      rcases h with h | ⟨o, ho, hle⟩
      · exact (h2 (e ▸ h)).elim
      · obtain ⟨k1, k2, k3⟩ := B.sound _ ho
        exact (h3 _ k1 e).trans hle
  all := fun r hr hn => by
    rcases List.mem_append.mp hr with hr | hr
    · exact B.all r hr hn
    · rw [List.mem_singleton] at hr
      subst hr
      rcases h with h | ⟨o, ho, _⟩
      · exact (hn h).elim
      · exact ⟨_, ho, rfl⟩
theorem BW.new {ps : List (Nat × Way)} {seen : List Nat} {D : List (Nat × Way)} (B : BW ps seen D) {q : Nat × Way} (h1 : q.1 ∉ seen) (h2 : q.1 ∉ D.map (·.1)) : BW (ps ++ [q]) seen (D ++ [q]) where
  nodup := by
    rw [List.map_append]
    refine List.nodup_append.mpr ⟨B.nodup, List.nodup_cons.mpr ⟨fun h => (by cases h), List.nodup_nil⟩, ?_⟩
    intro a ha b hb e
    subst e
    have : a = q.1 := by simpa using hb
    exact h2 (this ▸ ha)
  sound := fun p hp0 => by
    have nin : ∀ r ∈ ps, r.1 = q.1 → False := fun r hr e => by
      obtain ⟨p, hp, e2⟩ := B.all r hr (e ▸ h1)
      exact h2 (List.mem_map.mpr ⟨p, hp, e2.trans e⟩)
    rcases List.mem_append.mp hp0 with hp | hp
    · obtain ⟨k1, k2, k3⟩ := B.sound p hp
      refine ⟨List.mem_append_left _ k1, k2, fun r hr e => ?_⟩
      rcases List.mem_append.mp hr with hr | hr
      · exact k3 r hr e
      · rw [List.mem_singleton] at hr
        subst hr
        exact (h2 (List.mem_map.mpr ⟨p, hp, e.symm⟩)).elim
    · rw [List.mem_singleton] at hp
      subst hp
      refine ⟨List.mem_append_right _ (List.mem_singleton_self _), h1, fun r hr e => ?_⟩
      rcases List.mem_append.mp hr with hr | hr
      · exact (nin r hr e).elim
      · rw [List.mem_singleton] at hr
        subst hr
        exact Le.refl _
  all := fun r hr hn => by
    rcases List.mem_append.mp hr with hr | hr
    · obtain ⟨p, hp, e⟩ := B.all r hr hn
      exact ⟨p, List.mem_append_left _ hp, e⟩
    · rw [List.mem_singleton] at hr
      subst hr
      exact ⟨_, List.mem_append_right _ (List.mem_singleton_self _), rfl⟩
/-- a better way to a state that is there -/
def putD (D : List (Nat × Way)) (s : Nat) (w : Way) : List (Nat × Way) := D.map fun p => if p.1 = s then (p.1, w) else p
theorem putD_keys (D : List (Nat × Way)) (s : Nat) (w : Way) : (putD D s w).map (·.1) = D.map (·.1) := by
  unfold putD
  rw [List.map_map]
  refine List.map_congr_left fun p _ => ?_
  show (if p.1 = s then (p.1, w) else p).1 = p.1
  split <;> rfl
theorem mem_putD {D : List (Nat × Way)} {s : Nat} {w : Way} {p : Nat × Way} (h : p ∈ putD D s w) : (p.1 = s ∧ p.2 = w ∧ s ∈ D.map (·.1)) ∨ (p ∈ D ∧ p.1 ≠ s) := by
  unfold putD at h
  obtain ⟨q, hq, e⟩ := List.mem_map.mp h
  split at e
  · next hs =>
    subst e
    exact .inl ⟨hs, rfl, List.mem_map.mpr ⟨q, hq, hs⟩⟩
  · next hs =>
    subst e
    exact .inr ⟨hq, hs⟩
theorem BW.better {ps : List (Nat × Way)} {seen : List Nat} {D : List (Nat × Way)} (B : BW ps seen D) {q : Nat × Way} {o : Way} (h1 : q.1 ∉ seen) (h2 : (q.1, o) ∈ D) (hb : q.2.better o = true) : BW (ps ++ [q]) seen (putD D q.1 q.2) where
  nodup := by
    rw [putD_keys]
    exact B.nodup
  sound := fun p hp => by
    rcases mem_putD hp with ⟨e1, e2, _⟩ | ⟨hp, hne⟩
    · have ep : p = q := Prod.ext e1 e2
      subst ep
      refine ⟨List.mem_append_right _ (List.mem_singleton_self _), h1, fun r hr e => ?_⟩
      rcases List.mem_append.mp hr with hr | hr
      · exact (Le.of_better hb).trans ((B.sound _ h2).2.2 r hr e)
      · rw [List.mem_singleton] at hr
        subst hr
        exact Le.refl _
    · obtain ⟨k1, k2, k3⟩ := B.sound p hp
      refine ⟨List.mem_append_left _ k1, k2, fun r hr e => ?_⟩
      rcases List.mem_append.mp hr with hr | hr
      · exact k3 r hr e
      · rw [List.mem_singleton] at hr
        subst hr
        exact (hne e.symm).elim
  all := fun r hr hn => by
    have key : ∀ s, s ∈ D.map (·.1) → ∃ p ∈ putD D q.1 q.2, p.1 = s := fun s hs => by
      rw [← putD_keys D q.1 q.2] at hs
      obtain ⟨p, hp, e⟩ := List.mem_map.mp hs
      exact ⟨p, hp, e⟩
    rcases List.mem_append.mp hr with hr | hr
    · obtain ⟨p, hp, e⟩ := B.all r hr hn
      exact key _ (List.mem_map.mpr ⟨p, hp, e⟩)
    · rw [List.mem_singleton] at hr
      subst hr
      exact key _ (List.mem_map.mpr ⟨_, h2, rfl⟩)
/-! ### layers -/
section
variable (t : Task) (old : List Nat) (s0 : Nat)
/-- what was passed at place i: the states that are nearer -/
structure SOk (f i : Nat) (S : List Nat) : Prop where
  nodup : S.Nodup
  iff : ∀ s, s ∈ S ↔ ∃ w, Walk t old s0 i s w ∧ w.d < f
/-- come to by other than keeping -/
def Other (i s : Nat) (w : Way) : Prop := (i = 0 ∧ s = s0 ∧ w = ⟨0, 0, []⟩) ∨ ∃ j s' w' c l, Walk t old s0 j s' w' ∧ Move t old j s' i s 1 c l ∧ w = ext w' 1 c l
structure FOk (f i : Nat) (F : List (Nat × Way)) : Prop where
  sound : ∀ p ∈ F, Walk t old s0 i p.1 p.2 ∧ p.2.d = f
  all : ∀ s w, Other t old s0 i s w → w.d = f → (∃ w0, Walk t old s0 i s w0 ∧ w0.d < f) ∨ ∃ p ∈ F, p.1 = s ∧ Le p.2 w
structure LOk (f i : Nat) (L : List (Nat × Way)) : Prop where
  nodup : (L.map (·.1)).Nodup
  sound : ∀ p ∈ L, Walk t old s0 i p.1 p.2 ∧ p.2.d = f ∧ ∀ w, Walk t old s0 i p.1 w → Le p.2 w
  all : ∀ s w, Walk t old s0 i s w → w.d = f → (∃ w0, Walk t old s0 i s w0 ∧ w0.d < f) ∨ ∃ p ∈ L, p.1 = s
end
/-- the pairs behind one act -/
def onD (t : Task) (d k : Nat) (D : List (Nat × Way)) : List (Nat × Way) := D.filterMap fun p => if (t.act k).may p.1 = true then some ((t.act k).then_ p.1, ext p.2 d (t.act k).cost [k]) else none
theorem mem_onD {t : Task} {d k : Nat} {D : List (Nat × Way)} {q : Nat × Way} : q ∈ onD t d k D ↔ ∃ p ∈ D, (t.act k).may p.1 = true ∧ q = ((t.act k).then_ p.1, ext p.2 d (t.act k).cost [k]) := by
  unfold onD
  rw [List.mem_filterMap]
  constructor
  · rintro ⟨p, hp, h⟩
    split at h
    · next hm =>
      cases h
      exact ⟨p, hp, hm, rfl⟩
    · cases h
  · rintro ⟨p, hp, hm, rfl⟩
    exact ⟨p, hp, if_pos hm⟩
theorem onD_len (t : Task) (d k : Nat) (D : List (Nat × Way)) : (onD t d k D).length ≤ D.length := List.length_filterMap_le _ _
section
variable {t : Task} {old : List Nat} {s0 : Nat}
theorem Walk.inv {i s : Nat} {w : Way} (h : Walk t old s0 i s w) : Other t old s0 i s w ∨ ∃ j s' w' k, i = j + 1 ∧ old[j]? = some k ∧ t.can s' k = true ∧ s = (t.act k).then_ s' ∧ Walk t old s0 j s' w' ∧ w = ext w' 0 (t.act k).cost [k] := by
  cases h with
  | start => exact .inl (.inl ⟨rfl, rfl, rfl⟩)
  | step hw m =>
    cases m with
    | keep h c => exact .inr ⟨_, _, _, _, rfl, h, c, rfl, hw, rfl⟩
    | left h => exact .inl (.inr ⟨_, _, _, _, _, hw, .left h, rfl⟩)
    | put c => exact .inl (.inr ⟨_, _, _, _, _, hw, .put c, rfl⟩)
/-- what comes to place i by keeping -/
def kept (t : Task) (old : List Nat) (L : Nat → List (Nat × Way)) : Nat → List (Nat × Way)
  | 0 => []
  | j + 1 => match old[j]? with
    | some k => onD t 0 k (L j)
    | none => []
theorem layer_ok {f i : Nat} {S : List Nat} {F D : List (Nat × Way)} {L : Nat → List (Nat × Way)} (hold : ∀ k ∈ old, k < t.acts.length) (hi : i ≤ old.length) (hS : SOk t old s0 f i S) (hF : FOk t old s0 f i F) (hL : ∀ j, i = j + 1 → LOk t old s0 f j (L j)) (B : BW (F ++ kept t old L i) S D) : LOk t old s0 f i D := by
  have snd : ∀ q ∈ F ++ kept t old L i, Walk t old s0 i q.1 q.2 ∧ q.2.d = f := fun q hq => by
    rcases List.mem_append.mp hq with hq | hq
    · exact hF.sound q hq
    · cases i with
      | zero => cases hq
      | succ j =>
        have hq : q ∈ match old[j]? with | some k => onD t 0 k (L j) | none => [] := hq
        split at hq
        · next k hk =>
          obtain ⟨p, hp, hm, rfl⟩ := mem_onD.mp hq
          obtain ⟨h1, h2, _⟩ := (hL j rfl).sound p hp
          refine ⟨.step h1 (.keep hk (can_iff.mpr ⟨hold k (List.mem_of_getElem? hk), hm⟩)), ?_⟩
          show p.2.d + 0 = f
          omega
        · cases hq
  have cov : ∀ s w, Walk t old s0 i s w → w.d = f → (∃ w0, Walk t old s0 i s w0 ∧ w0.d < f) ∨ ∃ q ∈ F ++ kept t old L i, q.1 = s ∧ Le q.2 w := fun s w hw hd => by
    rcases hw.inv with ho | ⟨j, s', w', k, rfl, hk, hc, rfl, hw', rfl⟩
    · rcases hF.all s w ho hd with h | ⟨p, hp, h⟩
      · exact .inl h
      · exact .inr ⟨p, List.mem_append_left _ hp, h⟩
    · have hd' : w'.d = f := hd
      rcases (hL j rfl).all s' w' hw' hd' with ⟨w0, h1, h2⟩ | ⟨p, hp, rfl⟩
      · exact .inl ⟨_, .step h1 (.keep hk hc), h2⟩
      · refine .inr ⟨((t.act k).then_ p.1, ext p.2 0 (t.act k).cost [k]), List.mem_append_right _ ?_, rfl, (((hL j rfl).sound p hp).2.2 _ hw').ext _ _ _⟩
        show _ ∈ match old[j]? with | some k => onD t 0 k (L j) | none => []
        rw [hk]
        exact mem_onD.mpr ⟨p, hp, (can_iff.mp hc).2, rfl⟩
  refine ⟨B.nodup, fun p hp => ?_, fun s w hw hd => ?_⟩
  · obtain ⟨h1, h2, h3⟩ := B.sound p hp
    obtain ⟨k1, k2⟩ := snd p h1
    refine ⟨k1, k2, fun w hw => ?_⟩
    have hge : f ≤ w.d := Nat.le_of_not_lt fun z => h2 ((hS.iff _).mpr ⟨w, hw, z⟩)
    rcases Nat.lt_or_ge f w.d with hlt | hle
    · exact Le.of_better (better_iff.mpr (.inl (by omega)))
    · rcases cov _ w hw (by omega) with h | ⟨q, hq, e, hl⟩
      · exact (h2 ((hS.iff _).mpr h)).elim
      · exact (h3 q hq e).trans hl
  · rcases cov s w hw hd with h | ⟨q, hq, e, _⟩
    · exact .inl h
    · by_cases hs : s ∈ S
      · exact .inl ((hS.iff s).mp hs)
      · obtain ⟨p, hp, e2⟩ := B.all q hq (by rw [e]; exact hs)
        exact .inr ⟨p, hp, e2.trans e⟩
theorem passed_ok {f i : Nat} {S : List Nat} {D : List (Nat × Way)} (hS : SOk t old s0 f i S) (hD : LOk t old s0 f i D) (hn : ∀ p ∈ D, p.1 ∉ S) : SOk t old s0 (f + 1) i (S ++ D.map (·.1)) where
  nodup := List.nodup_append.mpr ⟨hS.nodup, hD.nodup, fun a ha b hb e => by
    subst e
    obtain ⟨p, hp, e⟩ := List.mem_map.mp hb
    exact hn p hp (by rw [e]; exact ha)⟩
  iff := fun s => by
    rw [List.mem_append]
    constructor
    · rintro (h | h)
      · obtain ⟨w, h1, h2⟩ := (hS.iff s).mp h
        exact ⟨w, h1, by omega⟩
      · obtain ⟨p, hp, rfl⟩ := List.mem_map.mp h
        obtain ⟨h1, h2, _⟩ := hD.sound p hp
        exact ⟨_, h1, by omega⟩
    · rintro ⟨w, h1, h2⟩
      rcases Nat.lt_or_ge w.d f with h | h
      · exact .inl ((hS.iff s).mpr ⟨w, h1, h⟩)
      · rcases hD.all s w h1 (by omega) with h | ⟨p, hp, e⟩
        · exact .inl ((hS.iff s).mpr h)
        · exact .inr (List.mem_map.mpr ⟨p, hp, e⟩)
/-- what is found one farther at place i -/
def left (L : Nat → List (Nat × Way)) : Nat → List (Nat × Way)
  | 0 => []
  | j + 1 => (L j).map fun p => (p.1, ext p.2 1 0 [])
def putIn (t : Task) (D : List (Nat × Way)) (n : Nat) : List (Nat × Way) := (List.range n).flatMap fun k => onD t 1 k D
theorem putIn_succ (t : Task) (D : List (Nat × Way)) (n : Nat) : putIn t D (n + 1) = putIn t D n ++ onD t 1 n D := by
  unfold putIn
  rw [List.range_succ, List.flatMap_append]
  simp
theorem putIn_len (t : Task) (D : List (Nat × Way)) : ∀ n, (putIn t D n).length ≤ n * D.length
  | 0 => by simp [putIn]
  | n + 1 => by
    rw [putIn_succ, List.length_append, Nat.succ_mul]
    have := putIn_len t D n
    have := onD_len t 1 n D
    omega
theorem found_ok {f i : Nat} {L : Nat → List (Nat × Way)} (hi : i ≤ old.length) (hL : ∀ j, j ≤ i → i ≤ j + 1 → LOk t old s0 f j (L j)) : FOk t old s0 (f + 1) i (putIn t (L i) t.acts.length ++ left L i) where
  sound := fun q hq => by
    rcases List.mem_append.mp hq with hq | hq
    · obtain ⟨k, hk, h⟩ := List.mem_flatMap.mp hq
      obtain ⟨p, hp, hm, rfl⟩ := mem_onD.mp h
      obtain ⟨h1, h2, _⟩ := (hL i (Nat.le_refl _) (Nat.le_succ _)).sound p hp
      refine ⟨.step h1 (.put (can_iff.mpr ⟨List.mem_range.mp hk, hm⟩)), ?_⟩
      show p.2.d + 1 = f + 1
      omega
    · cases i with
      | zero => cases hq
      | succ j =>
        obtain ⟨p, hp, rfl⟩ := List.mem_map.mp hq
        obtain ⟨h1, h2, _⟩ := (hL j (Nat.le_succ _) (Nat.le_refl _)).sound p hp
        have hj : old[j]? = some old[j] := List.getElem?_eq_getElem (by omega)
        refine ⟨.step h1 (.left hj), ?_⟩
        show p.2.d + 1 = f + 1
        omega
  all := fun s w ho hd => by
    rcases ho with ⟨_, _, rfl⟩ | ⟨j, s', w', c, l, hw', m, rfl⟩
    · cases hd
    · have hd' : w'.d = f := Nat.succ.inj hd
      cases m with
      | left h =>
        rcases (hL j (Nat.le_succ _) (Nat.le_refl _)).all _ w' hw' hd' with ⟨w0, h1, h2⟩ | ⟨p, hp, rfl⟩
        · exact .inl ⟨_, .step h1 (.left h), Nat.succ_lt_succ h2⟩
        · exact .inr ⟨(p.1, ext p.2 1 0 []), List.mem_append_right _ (List.mem_map.mpr ⟨p, hp, rfl⟩), rfl, (((hL j (Nat.le_succ _) (Nat.le_refl _)).sound p hp).2.2 _ hw').ext _ _ _⟩
      | put hc =>
        rename_i k
        rcases (hL i (Nat.le_refl _) (Nat.le_succ _)).all _ w' hw' hd' with ⟨w0, h1, h2⟩ | ⟨p, hp, rfl⟩
        · exact .inl ⟨_, .step h1 (.put hc), Nat.succ_lt_succ h2⟩
        · obtain ⟨k1, k2⟩ := can_iff.mp hc
          exact .inr ⟨((t.act k).then_ p.1, ext p.2 1 (t.act k).cost [k]), List.mem_append_left _ (List.mem_flatMap.mpr ⟨k, List.mem_range.mpr k1, mem_onD.mpr ⟨p, hp, k2, rfl⟩⟩), rfl, (((hL i (Nat.le_refl _) (Nat.le_succ _)).sound p hp).2.2 _ hw').ext _ _ _⟩
theorem start_s {i : Nat} : SOk t old s0 0 i [] := ⟨List.nodup_nil, fun s => ⟨fun h => (by cases h), fun ⟨w, _, h⟩ => (by omega)⟩⟩
theorem start_f0 : FOk t old s0 0 0 [(s0, ⟨0, 0, []⟩)] where
  sound := fun p hp => by
    rw [List.mem_singleton] at hp
    subst hp
    exact ⟨.start, rfl⟩
  all := fun s w ho hd => by
    rcases ho with ⟨_, rfl, rfl⟩ | ⟨j, s', w', c, l, hw', m, rfl⟩
    · exact .inr ⟨_, List.mem_singleton_self _, rfl, Le.refl _⟩
    · cases hd
theorem start_f {i : Nat} (h : 0 < i) : FOk t old s0 0 i [] where
  sound := fun p hp => by cases hp
  all := fun s w ho hd => by
    rcases ho with ⟨rfl, _, _⟩ | ⟨j, s', w', c, l, hw', m, rfl⟩
    · omega
    · cases hd
/-! ### the end -/
/-- nothing that does is nearer -/
def NotYet (t : Task) (old : List Nat) (s0 f : Nat) : Prop := ∀ u w, Walk t old s0 old.length u w → w.d < f → t.done u = false
theorem not_yet0 : NotYet t old s0 0 := fun u w _ h => by omega
theorem not_yet_next {f : Nat} {D : List (Nat × Way)} (hD : LOk t old s0 f old.length D) (h : NotYet t old s0 f) (he : ∀ p ∈ D, t.done p.1 = false) : NotYet t old s0 (f + 1) := fun u w hw hd => by
  rcases Nat.lt_or_ge w.d f with hl | hl
  · exact h u w hw hl
  · rcases hD.all u w hw (by omega) with ⟨w0, h1, h2⟩ | ⟨p, hp, rfl⟩
    · exact h u w0 h1 h2
    · exact he p hp
theorem best_found {f : Nat} {D : List (Nat × Way)} (hD : LOk t old s0 f old.length D) (h : NotYet t old s0 f) {p : Nat × Way} (hp : p ∈ D) (hd : t.done p.1 = true) (hm : ∀ q ∈ D, t.done q.1 = true → Le p.2 q.2) : Best t old s0 (some p.2) := by
  obtain ⟨h1, h2, _⟩ := hD.sound p hp
  refine ⟨⟨p.1, h1, hd⟩, fun u w hw hu => ?_⟩
  rcases Nat.lt_trichotomy w.d f with hl | hl | hl
  · rw [h u w hw hl] at hu
    cases hu
  · rcases hD.all u w hw hl with ⟨w0, k1, k2⟩ | ⟨q, hq, rfl⟩
    · rw [h u w0 k1 k2] at hu
      cases hu
    · exact (hm q hq hu).trans ((hD.sound q hq).2.2 w hw)
  · exact Le.of_better (better_iff.mpr (.inl (by omega)))
theorem Move.d {i s j u d c : Nat} {l : List Nat} (m : Move t old i s j u d c l) : d ≤ 1 ∧ i + l.length ≤ d + j := by
  cases m <;> simp <;> omega
theorem all_nearer {f : Nat} (hL : ∀ i, i ≤ old.length → LOk t old s0 f i []) {i s : Nat} {w : Way} (h : Walk t old s0 i s w) : i ≤ old.length ∧ ∃ w0, Walk t old s0 i s w0 ∧ w0.d < f := by
  induction h with
  | start =>
    refine ⟨Nat.zero_le _, ?_⟩
    rcases Nat.eq_zero_or_pos f with rfl | hf
    · rcases (hL 0 (Nat.zero_le _)).all s0 _ .start rfl with h | ⟨p, hp, _⟩
      · exact h
      · cases hp
    · exact ⟨_, .start, hf⟩
  | step hw m ih =>
    obtain ⟨h1, w0, h2, h3⟩ := ih
    have hj := (m.row h1).1
    refine ⟨hj, ?_⟩
    rcases Nat.lt_or_ge (ext w0 _ _ _).d f with hl | hl
    · exact ⟨_, .step h2 m, hl⟩
    · rcases (hL _ hj).all _ _ (.step h2 m) (by
        have := m.d.1
        have e : ∀ d c l, (ext w0 d c l).d = w0.d + d := fun _ _ _ => rfl
        rw [e] at hl ⊢
        omega) with h | ⟨p, hp, _⟩
      · exact h
      · cases hp
theorem none_found {f : Nat} (hL : ∀ i, i ≤ old.length → LOk t old s0 f i []) (h : NotYet t old s0 f) : Best t old s0 none := fun u w hw => by
  obtain ⟨_, w0, h1, h2⟩ := all_nearer hL hw
  exact h u w0 h1 h2
/-- how long a way is -/
theorem Walk.len {i s : Nat} {w : Way} (h : Walk t old s0 i s w) : w.l.length ≤ w.d + i := by
  induction h with
  | start => exact Nat.zero_le _
  | step hw m ih =>
    rename_i d c l w
    have h1 := m.d.2
    show (w.l ++ l).length ≤ w.d + d + _
    rw [List.length_append]
    omega
theorem walk_put {l : List Nat} : ∀ {i s u : Nat} {w : Way}, Walk t old s0 i s w → t.goes s l = some u → ∃ c, Walk t old s0 i u ⟨w.d + l.length, c, w.l ++ l⟩ := by
  induction l with
  | nil =>
    intro i s u w h g
    cases g
    refine ⟨w.c, ?_⟩
    rw [List.append_nil]
    exact h
  | cons k l ih =>
    intro i s u w h g
    obtain ⟨hk, g⟩ := goes_cons_iff.mp g
    obtain ⟨c, z⟩ := ih (.step h (.put hk)) g
    refine ⟨c, ?_⟩
    have e1 : (ext w 1 (t.act k).cost [k]).d + l.length = w.d + (k :: l).length := by
      show w.d + 1 + l.length = w.d + (l.length + 1)
      omega
    have e2 : (ext w 1 (t.act k).cost [k]).l ++ l = w.l ++ k :: l := by
      show w.l ++ [k] ++ l = _
      rw [List.append_assoc]
      rfl
    rw [e1, e2] at z
    exact z
theorem walk_left {s : Nat} {w : Way} (h : Walk t old s0 0 s w) : ∀ i, i ≤ old.length → Walk t old s0 i s ⟨w.d + i, w.c, w.l⟩
  | 0, _ => h
  | i + 1, hi => by
    have hj : old[i]? = some old[i] := List.getElem?_eq_getElem (by omega)
    have z := Walk.step (walk_left h i (by omega)) (.left hj)
    have e : ext ⟨w.d + i, w.c, w.l⟩ 1 0 [] = ⟨w.d + (i + 1), w.c, w.l⟩ := by
      show (⟨w.d + i + 1, w.c + 0, w.l ++ []⟩ : Way) = _
      rw [List.append_nil]
      rfl
    rw [e] at z
    exact z
/-- nothing is farther than leaving out all and a way without a loop -/
theorem LOk.near {f i : Nat} {D : List (Nat × Way)} (W : WF t) (h0 : s0 < 2 ^ t.facts) (hi : i ≤ old.length) (hD : LOk t old s0 f i D) {p : Nat × Way} (hp : p ∈ D) : f < 2 ^ t.facts + i := by
  obtain ⟨h1, h2, h3⟩ := hD.sound p hp
  obtain ⟨_, g, _⟩ := h1.from
  obtain ⟨l, g2, hn, _⟩ := loopless g
  have hl := loopless_short W h0 g2 hn
  obtain ⟨c, z⟩ := walk_put .start g2
  have := (h3 _ (walk_left z i hi)).d
  have e : (⟨(⟨(⟨0, 0, []⟩ : Way).d + l.length, c, (⟨0, 0, []⟩ : Way).l ++ l⟩ : Way).d + i, c, (⟨0, 0, []⟩ : Way).l ++ l⟩ : Way).d = 0 + l.length + i := rfl
  rw [e] at this
  omega
theorem LOk.few {f i : Nat} {D : List (Nat × Way)} (W : WF t) (h0 : s0 < 2 ^ t.facts) (hD : LOk t old s0 f i D) : D.length ≤ 2 ^ t.facts := by
  have := nodup_le (2 ^ t.facts) (D.map (·.1)) hD.nodup fun v hv => by
    obtain ⟨p, hp, rfl⟩ := List.mem_map.mp hv
    exact ((hD.sound p hp).1.inside W h0).2
  rw [List.length_map] at this
  exact this
theorem SOk.few {f i : Nat} {S : List Nat} (W : WF t) (h0 : s0 < 2 ^ t.facts) (hS : SOk t old s0 f i S) : S.length ≤ 2 ^ t.facts :=
  nodup_le (2 ^ t.facts) S hS.nodup fun v hv => by
    obtain ⟨w, hw, _⟩ := (hS.iff v).mp hv
    exact (hw.inside W h0).2
end
end Md

/-! Rules for nested tuples: <, min of a list, list.remove. -/
namespace Md
open PySem PySem.Spec PyProof.Rows L2
theorem argBest_least {bt : Nat → Nat → Bool} {n : Nat} (irr : ∀ i, bt i i = false) (tr : ∀ i j k, i ≤ n → j ≤ n → k ≤ n → bt i j = true → bt j k = true → bt i k = true) : ∀ k, k ≤ n → argBest bt k ≤ k ∧ ∀ j, j ≤ k → bt j (argBest bt k) = false
  | 0, _ => ⟨Nat.le_refl _, fun j hj => by
    obtain rfl : j = 0 := by omega
    exact irr 0⟩
  | k + 1, hk => by
    obtain ⟨h1, h2⟩ := argBest_least irr tr k (by omega)
    unfold argBest
    split
    · next hb =>
      refine ⟨Nat.le_refl _, fun j hj => ?_⟩
      rcases Nat.lt_or_ge j (k + 1) with hl | hl
      · cases e : bt j (k + 1) with
        | false => rfl
        | true =>
          have := tr _ _ _ (by omega) (by omega) (by omega) e hb
          rw [h2 j (by omega)] at this
          cases this
      · obtain rfl : j = k + 1 := by omega
        exact irr _
    · next hb =>
      refine ⟨by omega, fun j hj => ?_⟩
      rcases Nat.lt_or_ge j (k + 1) with hl | hl
      · exact h2 j (by omega)
      · obtain rfl : j = k + 1 := by omega
        rw [Bool.not_eq_true] at hb
        exact hb
section
variable {prog : Program} {w : World} {A : Around} {E : Value → Shared → Prop} {s : Shared}
theorem min_at {l : Addr} {vs : Array Value} {ds : List PyData} {as : List Addr} {Q : Value → Shared → Prop} (hh : A.handled = none) (hl : s.heap.IsList l vs) (hr : ReadsAll s.heap vs.toList ds as) (ha : PySem.W.AlikeAll ds) (hu : A.units + 1 + PyData.depthAll ds < cLine) (hne : 0 < ds.length)
    (tr : ∀ x ∈ ds, ∀ y ∈ ds, ∀ z ∈ ds, PySem.W.dataLt x y = true → PySem.W.dataLt y z = true → PySem.W.dataLt x z = true)
    (h : ∀ (i : Nat) v d h' tk, vs[i]? = some v → ds[i]? = some d → (∀ e ∈ ds, PySem.W.dataLt e d = false) → (∀ b o, s.heap.get? b = some o → h'.get? b = some o) → Q v { s with heap := h', toks := tk }) :
    wpAny (model prog w) A (call (.builtin "min") [.ref l]) Q E s := by
  have hn : vs.size = ds.length := PySem.W.readsAll_len hr
  refine call_min_walkH (PySem.W.iter_listW (A := A.in1) hh hl fun s₂ e W st hfp hw hk => ?_)
  refine ⟨_, _, _, _, _, _, _, s.heap, _, rfl, W, st, hfp, by omega, hw, hk, PySem.W.cmpIn_lt (A := A.in1) hr ha (by show A.units + 1 + _ < _; exact hu), fun v s' hP m => ?_⟩
  obtain ⟨h', tk, rfl, hk'⟩ := PySem.W.moved_old e rfl m
  have memD : ∀ i, i < ds.length → ds.getD i .none ∈ ds := fun i hi => by
    rw [List.getD_eq_getElem?_getD, List.getElem?_eq_getElem hi]
    exact List.getElem_mem hi
  obtain ⟨h1, h2⟩ := argBest_least (n := vs.size - 1) (bt := fun i j => PySem.W.dataLt (ds.getD i .none) (ds.getD j .none)) (fun i => by unfold PySem.W.dataLt; exact lex_irrefl _) (fun i j k hi hj hk a b => tr _ (memD _ (by omega)) _ (memD _ (by omega)) _ (memD _ (by omega)) a b) (vs.size - 1) (Nat.le_refl _)
  have hlt : argBest (fun i j => PySem.W.dataLt (ds.getD i .none) (ds.getD j .none)) (vs.size - 1) < ds.length := by omega
  refine h _ v (ds.getD (argBest (fun i j => PySem.W.dataLt (ds.getD i .none) (ds.getD j .none)) (vs.size - 1)) .none) h' tk hP ?_ (fun e he => ?_) hk'
  · rw [List.getD_eq_getElem?_getD, List.getElem?_eq_getElem hlt]
    rfl
  · obtain ⟨j, hj, rfl⟩ := List.getElem_of_mem he
    have := h2 j (by omega)
    have ej : ds.getD j .none = ds[j] := by
      rw [List.getD_eq_getElem?_getD, List.getElem?_eq_getElem hj]
      rfl
    rw [ej] at this
    exact this
end
section
variable {X : Cx}
def rLtD (K : PySem.W.Frag) : R2 := fun x y H Q => ∃ d e, Dp K H x d ∧ Dp K H y e ∧ PySem.W.alike d e = true ∧ d ≠ .none ∧ d.depth ≤ 60 ∧ Q (.bl (PySem.W.dataLt d e)) H
theorem op_ltD (hu : X.A.units + 64 < cLine) : OpR X (compareOp .Lt) (rLtD X.K) := by
  intro pins s σ H x y v u Q I rx ry h
  obtain ⟨d, e, hd, he, al, nn, dp, q⟩ := h
  obtain ⟨as, r1⟩ := Dp.reads I d x v hd rx
  obtain ⟨bs, r2⟩ := Dp.reads I e y u he ry
  have := Nat.min_le_left d.depth e.depth
  exact PySem.W.lt_data r1 r2 al nn (by omega) ⟨.bl _, H, I, rfl, q⟩
def rMinD (K : PySem.W.Frag) : List V → Hp → VK → Prop := fun vs H Q => ∃ (a : Addr) (xs : List V) (ds : List PyData), vs = [V.ref a] ∧ SqL K H a xs ∧ DpAll K H xs ds ∧ PySem.W.AlikeAll ds ∧ PyData.depthAll ds ≤ 60 ∧ 0 < ds.length ∧
  (∀ x ∈ ds, ∀ y ∈ ds, ∀ z ∈ ds, PySem.W.dataLt x y = true → PySem.W.dataLt y z = true → PySem.W.dataLt x z = true) ∧
  ∀ (i : Nat) x d, xs[i]? = some x → ds[i]? = some d → (∀ e ∈ ds, PySem.W.dataLt e d = false) → Q x H
theorem cr_minD (hc : X.calm = true) (hu : X.A.units + 64 < cLine) : CallR X (.builtin "min") (rMinD X.K) := by
  intro pins s σ H vs us Q I r h
  obtain ⟨a, xs, ds, rfl, hs, hd, al, dp, ne, tr, q⟩ := h
  obtain ⟨its, rv, hl, _⟩ := I.list hs
  rw [Vals.ref1 r]
  obtain ⟨as, hr⟩ := Dp.readsAll I ds xs its hd rv
  refine min_at (ds := ds) (as := as) (I.ok.hd hc) hl.isList (by simpa using hr) al (by omega) ne tr fun i v d h' tk hi hdi hm hk => ?_
  have hlen := rv.length
  have hil : i < its.length := by
    have : its.toArray[i]? = some v := hi
    rw [List.getElem?_toArray] at this
    exact (List.getElem?_eq_some_iff.mp this).1
  have hx : xs[i]? = some xs[i] := List.getElem?_eq_getElem (by omega)
  obtain ⟨u, hu', ru⟩ := rv.get hx
  have : its.toArray[i]? = some v := hi
  rw [List.getElem?_toArray, hu'] at this
  cases this
  exact ⟨xs[i], H, I.kept hk, ru, q i _ d hx hdi hm⟩
def rRemD (K : PySem.W.Frag) : V → List V → Hp → VK → Prop := fun x xs H Q => ∃ (l : Addr) (ys : List V) (y : V) (ds : List PyData) (d : PyData) (j : Nat), x = .ref l ∧ xs = [y] ∧ H l = some (.lst ys) ∧ DpAll K H ys ds ∧ Dp K H y d ∧ PyData.plainAll ds = true ∧ d.plain = true ∧ d.depth ≤ 60 ∧
  SeqAt.dataPlace ds d = some j ∧ Q .non (upd H l (.lst (ys.eraseIdx j)))
theorem mt_removeD (hu : X.A.units + 64 < cLine) : MtM X "list.remove" (rRemD X.K) := by
  intro pins s σ H x xs v us Q I rx rxs h
  obtain ⟨l, ys, y, ds, d, j, rfl, rfl, hH, hd, hy, p1, p2, dp, hj, q⟩ := h
  cases rx
  obtain ⟨u, rfl, ru⟩ := rxs.one
  obtain ⟨z, its, n, r, hl, e⟩ := I.lstM hH
  obtain ⟨as, r1⟩ := Dp.readsAll I ds ys its hd r
  obtain ⟨bs, r2⟩ := Dp.reads I d y u hy ru
  have := Nat.min_le_right (PyData.depthAll ds) d.depth
  refine SeqAt.remove_list_data (l := l) (vs := its.toArray) (xs := ds) (as := as) ⟨_, e, rfl, n, rfl⟩ (by simpa using r1) r2 p1 p2 (by omega) hj (by rw [List.size_toArray]; omega) ?_
  have rr := r.eraseIdx j
  refine ⟨.non, _, I.lset (its' := its.eraseIdx j) (t' := s.toks) hH e ?_ rr ?_, rfl, q⟩
  · show its.toArray.eraseIdxIfInBounds j = (its.eraseIdx j).toArray
    rw [List.eraseIdxIfInBounds_toArray]
  · exact Nat.le_trans (List.length_eraseIdx_le _ _) z
end
end Md

/-! Ways in the heap, and how they are compared. -/
namespace Md
open PySem PySem.Spec PyProof.Rows L2
open PySem.W (Datum DatumOrd Tup dataLt)
/-! ### lists side by side -/
structure Each {α β : Type} (R : α → β → Prop) (l : List α) (m : List β) : Prop where
  len : l.length = m.length
  at_ : ∀ (i : Nat) (a : α) (b : β), l[i]? = some a → m[i]? = some b → R a b
section
variable {α β γ : Type} {R : α → β → Prop}
theorem Each.nil : Each R [] [] := ⟨rfl, fun i a b e => by simp at e⟩
theorem Each.append {l l' : List α} {m m' : List β} (h : Each R l m) (h' : Each R l' m') : Each R (l ++ l') (m ++ m') := by
  refine ⟨by rw [List.length_append, List.length_append, h.len, h'.len], fun i a b e1 e2 => ?_⟩
  have hl := h.len
  rcases Nat.lt_or_ge i l.length with hi | hi
  · rw [List.getElem?_append_left hi] at e1
    rw [List.getElem?_append_left (by omega)] at e2
    exact h.at_ i a b e1 e2
  · rw [List.getElem?_append_right hi] at e1
    rw [List.getElem?_append_right (by omega)] at e2
    rw [hl] at e1
    exact h'.at_ _ a b e1 e2
theorem Each.one {a : α} {b : β} (h : R a b) : Each R [a] [b] := by
  refine ⟨rfl, fun i x y e1 e2 => ?_⟩
  cases i with
  | zero =>
    cases e1
    cases e2
    exact h
  | succ i => simp at e1
theorem Each.snoc {l : List α} {m : List β} {a : α} {b : β} (h : Each R l m) (r : R a b) : Each R (l ++ [a]) (m ++ [b]) := h.append (Each.one r)
theorem Each.imp {R' : α → β → Prop} {l : List α} {m : List β} (h : Each R l m) (k : ∀ a b, R a b → R' a b) : Each R' l m := ⟨h.len, fun i a b e1 e2 => k a b (h.at_ i a b e1 e2)⟩
theorem Each.map {R' : α → γ → Prop} {l : List α} {m : List β} (g : β → γ) (h : Each R l m) (k : ∀ a b, R a b → R' a (g b)) : Each R' l (m.map g) := by
  refine ⟨by rw [List.length_map]; exact h.len, fun i a c e1 e2 => ?_⟩
  rw [List.getElem?_map] at e2
  cases e : m[i]? with
  | none =>
    rw [e] at e2
    cases e2
  | some b =>
    rw [e] at e2
    cases e2
    exact k a b (h.at_ i a b e1 e)
theorem Each.get {l : List α} {m : List β} (h : Each R l m) {i : Nat} {a : α} (e : l[i]? = some a) : ∃ b, m[i]? = some b ∧ R a b := by
  have hi := (List.getElem?_eq_some_iff.mp e).1
  have hm : m[i]? = some (m[i]'(by rw [← h.len]; exact hi)) := List.getElem?_eq_getElem _
  exact ⟨_, hm, h.at_ i _ _ e hm⟩
theorem Each.get' {l : List α} {m : List β} (h : Each R l m) {i : Nat} {b : β} (e : m[i]? = some b) : ∃ a, l[i]? = some a ∧ R a b := by
  have hi := (List.getElem?_eq_some_iff.mp e).1
  have hm : l[i]? = some (l[i]'(by rw [h.len]; exact hi)) := List.getElem?_eq_getElem _
  exact ⟨_, hm, h.at_ i _ _ hm e⟩
theorem Each.erase {l : List α} {m : List β} (h : Each R l m) (j : Nat) : Each R (l.eraseIdx j) (m.eraseIdx j) := by
  refine ⟨by rw [List.length_eraseIdx, List.length_eraseIdx, h.len], fun i a b e1 e2 => ?_⟩
  rw [List.getElem?_eraseIdx] at e1 e2
  split at e1
  · next hi =>
    rw [if_pos hi] at e2
    exact h.at_ _ a b e1 e2
  · next hi =>
    rw [if_neg hi] at e2
    exact h.at_ _ a b e1 e2
theorem Each.cons_inv {l : List α} {m : List β} {a : α} {b : β} (h : Each R (a :: l) (b :: m)) : R a b ∧ Each R l m :=
  ⟨h.at_ 0 a b rfl rfl, ⟨Nat.succ.inj h.len, fun i x y e1 e2 => h.at_ (i + 1) x y e1 e2⟩⟩
end
/-! ### tuples stay -/
def TupK (H H' : Hp) : Prop := ∀ b xs, H b = some (.tup xs) → H' b = some (.tup xs)
theorem TupK.refl (H : Hp) : TupK H H := fun _ _ h => h
theorem TupK.trans {H H' H'' : Hp} (h : TupK H H') (k : TupK H' H'') : TupK H H'' := fun b xs e => k b xs (h b xs e)
theorem TupK.same {H H' : Hp} (h : Same H H') : TupK H H' := fun b xs e => h b _ e
theorem TupK.upd {H : Hp} {p : Addr} {o : HO} (h : ∀ xs, H p ≠ some (.tup xs)) : TupK H (L2.upd H p o) := fun b xs e => by
  have hne : b ≠ p := fun z => h xs (by rw [← z]; exact e)
  rw [upd_ne hne]
  exact e
theorem TupK.new {H : Hp} {p : Addr} {o : HO} (h : H p = none) : TupK H (L2.upd H p o) := TupK.upd fun xs e => by rw [h] at e; cases e
theorem TupK.at {H : Hp} {p : Addr} {o o' : HO} (h : H p = some o') (hn : ∀ xs, o' ≠ .tup xs) : TupK H (L2.upd H p o) := TupK.upd fun xs e => by
  rw [h] at e
  exact hn xs (Option.some.inj e)
/-- the acts, the cost of a way: (cost, how many, acts) -/
def WyAt (H : Hp) (v : V) (w : Pn12.Way) : Prop := ∃ t t2, v = .ref t ∧ H t = some (.tup [.int (w.c : Nat), .int (w.l.length : Nat), .ref t2]) ∧ H t2 = some (.tup (nums w.l))
def PrAt (H : Hp) (v : V) (p : Nat × Pn12.Way) : Prop := ∃ t x, v = .ref t ∧ H t = some (.tup [.int (p.1 : Nat), x]) ∧ WyAt H x p.2
def EnAt (H : Hp) (kv : Key × V) (p : Nat × Pn12.Way) : Prop := kv.1 = Sum.inl ((p.1 : Nat) : Int) ∧ WyAt H kv.2 p.2
/-- (cost, acts, state) -/
structure Cw where
  c : Nat
  l : List Nat
  s : Nat
def CwAt (H : Hp) (v : V) (x : Cw) : Prop := ∃ t t2, v = .ref t ∧ H t = some (.tup [.int (x.c : Nat), .ref t2, .int (x.s : Nat)]) ∧ H t2 = some (.tup (nums x.l))
theorem WyAt.keep {H H' : Hp} {v : V} {w : Pn12.Way} (k : TupK H H') (h : WyAt H v w) : WyAt H' v w := by
  obtain ⟨t, t2, e, h1, h2⟩ := h
  exact ⟨t, t2, e, k _ _ h1, k _ _ h2⟩
theorem PrAt.keep {H H' : Hp} {v : V} {w : Nat × Pn12.Way} (k : TupK H H') (h : PrAt H v w) : PrAt H' v w := by
  obtain ⟨t, x, e, h1, h2⟩ := h
  exact ⟨t, x, e, k _ _ h1, h2.keep k⟩
theorem EnAt.keep {H H' : Hp} {v : Key × V} {w : Nat × Pn12.Way} (k : TupK H H') (h : EnAt H v w) : EnAt H' v w := ⟨h.1, h.2.keep k⟩
theorem CwAt.keep {H H' : Hp} {v : V} {w : Cw} (k : TupK H H') (h : CwAt H v w) : CwAt H' v w := by
  obtain ⟨t, t2, e, h1, h2⟩ := h
  exact ⟨t, t2, e, k _ _ h1, k _ _ h2⟩
/-! ### three in a row -/
structure T3 (α β γ : Type) where
  a : α
  b : β
  c : γ
  deriving DecidableEq
section
variable {α β γ : Type} [DecidableEq α] [DecidableEq β] [DecidableEq γ]
instance [Datum α] [Datum β] [Datum γ] : Datum (T3 α β γ) where
  toD p := .tuple [Datum.toD p.a, Datum.toD p.b, Datum.toD p.c]
  plain p := by
    simp only [PyData.plain, PyData.plainAll]
    rw [Datum.plain, Datum.plain, Datum.plain]
    rfl
  eqv p q := by
    simp only [PyData.eqv, PyData.eqvAll]
    rw [Datum.eqv, Datum.eqv, Datum.eqv, Bool.and_true, ← Bool.decide_and, ← Bool.decide_and]
    refine decide_eq_decide.mpr ⟨fun e => ?_, fun e => by rw [e]; exact ⟨rfl, rfl, rfl⟩⟩
    obtain ⟨a, b, c⟩ := p
    obtain ⟨a', b', c'⟩ := q
    obtain ⟨e1, e2, e3⟩ := e
    subst e1 e2 e3
    rfl
  depth := max (Datum.depth α) (max (Datum.depth β) (Datum.depth γ)) + 1
  depth_le p := by
    simp only [PyData.depth, PyData.depthAll]
    have := Datum.depth_le p.a
    have := Datum.depth_le p.b
    have := Datum.depth_le p.c
    omega
instance [DatumOrd α] [DatumOrd β] [DatumOrd γ] : DatumOrd (T3 α β γ) where
  lt p q := if p.a = q.a then (if p.b = q.b then DatumOrd.lt p.c q.c else DatumOrd.lt p.b q.b) else DatumOrd.lt p.a q.a
  alike p q := by
    show PySem.W.alike (.tuple [_, _, _]) (.tuple [_, _, _]) = true
    simp only [PySem.W.alike, PySem.W.alikeAll, DatumOrd.alike]
    rfl
  notNone p := fun e => by cases e
  lt_eq p q := by
    refine (PySem.W.dataLt_tuple _ _).trans ?_
    by_cases h : p.a = q.a
    · rw [if_pos h, PySem.W.dataLt_all_yes (DatumOrd.alike p.a q.a) (by rw [Datum.eqv]; exact decide_eq_true h)]
      by_cases h2 : p.b = q.b
      · rw [if_pos h2, PySem.W.dataLt_all_yes (DatumOrd.alike p.b q.b) (by rw [Datum.eqv]; exact decide_eq_true h2)]
        by_cases h3 : p.c = q.c
        · rw [PySem.W.dataLt_all_yes (DatumOrd.alike p.c q.c) (by rw [Datum.eqv]; exact decide_eq_true h3), h3, ← DatumOrd.lt_eq q.c q.c]
          exact (lex_irrefl _).trans (PySem.W.dataLt_self _).symm
        · rw [PySem.W.dataLt_all_no (DatumOrd.alike p.c q.c) (by rw [Datum.eqv]; exact decide_eq_false h3)]
          exact DatumOrd.lt_eq p.c q.c
      · rw [if_neg h2, PySem.W.dataLt_all_no (DatumOrd.alike p.b q.b) (by rw [Datum.eqv]; exact decide_eq_false h2)]
        exact DatumOrd.lt_eq p.b q.b
    · rw [if_neg h, PySem.W.dataLt_all_no (DatumOrd.alike p.a q.a) (by rw [Datum.eqv]; exact decide_eq_false h)]
      exact DatumOrd.lt_eq p.a q.a
end
def tup (l : List Nat) : Tup Int := ⟨l.map fun (n : Nat) => (n : Int)⟩
theorem int_inj {l m : List Nat} (h : (l.map fun (n : Nat) => (n : Int)) = m.map fun (n : Nat) => (n : Int)) : l = m := by
  induction l generalizing m with
  | nil =>
    cases m with
    | nil => rfl
    | cons b m => cases h
  | cons a l ih =>
    cases m with
    | nil => cases h
    | cons b m =>
      rw [List.map_cons, List.map_cons] at h
      injection h with h1 h2
      rw [ih h2, Int.ofNat.inj h1]
theorem tup_inj {l m : List Nat} (h : tup l = tup m) : l = m := int_inj (congrArg Tup.items h)
theorem tup_lt : ∀ (l m : List Nat), DatumOrd.lt (tup l) (tup m) = Pn12.less l m
  | [], [] => rfl
  | [], _ :: _ => rfl
  | _ :: _, [] => rfl
  | a :: l, b :: m => by
    show (if (a : Int) = (b : Int) then PySem.W.listLt (tup l).items (tup m).items else decide ((a : Int) < (b : Int))) = _
    rw [less_cons]
    have ih : PySem.W.listLt (tup l).items (tup m).items = Pn12.less l m := tup_lt l m
    rw [ih]
    by_cases h : a = b
    · subst h
      simp
    · rw [if_neg (fun z => h (by omega))]
      have e : (a == b) = false := beq_eq_false_iff_ne.mpr h
      rw [e, Bool.false_and, Bool.or_false]
      exact decide_eq_decide.mpr (by omega)
abbrev W3 := T3 Int Int (Tup Int)
abbrev C3 := T3 Int (Tup Int) Int
def w3 (w : Pn12.Way) : W3 := ⟨(w.c : Nat), (w.l.length : Nat), tup w.l⟩
def c3 (x : Cw) : C3 := ⟨(x.c : Nat), tup x.l, (x.s : Nat)⟩
theorem w3_lt {a b : Pn12.Way} (e : a.d = b.d) : DatumOrd.lt (w3 a) (w3 b) = a.better b := by
  show (if ((a.c : Nat) : Int) = ((b.c : Nat) : Int) then (if ((a.l.length : Nat) : Int) = ((b.l.length : Nat) : Int) then DatumOrd.lt (tup a.l) (tup b.l) else decide (((a.l.length : Nat) : Int) < ((b.l.length : Nat) : Int))) else decide (((a.c : Nat) : Int) < ((b.c : Nat) : Int))) = _
  rw [tup_lt]
  refine Bool.eq_iff_iff.mpr ?_
  rw [better_iff]
  by_cases h : a.c = b.c
  · rw [if_pos (by omega)]
    by_cases h2 : a.l.length = b.l.length
    · rw [if_pos (by omega)]
      constructor
      · intro h3
        exact .inr ⟨e, .inr ⟨h, .inr ⟨h2, h3⟩⟩⟩
      · rintro (h3 | ⟨_, h3 | ⟨_, h3 | ⟨_, h3⟩⟩⟩)
        · omega
        · omega
        · omega
        · exact h3
    · rw [if_neg (by omega), decide_eq_true_eq]
      omega
  · rw [if_neg (by omega), decide_eq_true_eq]
    omega
def cLt (x y : Cw) : Prop := x.c < y.c ∨ (x.c = y.c ∧ (Pn12.less x.l y.l = true ∨ (x.l = y.l ∧ x.s < y.s)))
theorem c3_lt (x y : Cw) : DatumOrd.lt (c3 x) (c3 y) = true ↔ cLt x y := by
  show (if ((x.c : Nat) : Int) = ((y.c : Nat) : Int) then (if tup x.l = tup y.l then decide (((x.s : Nat) : Int) < ((y.s : Nat) : Int)) else DatumOrd.lt (tup x.l) (tup y.l)) else decide (((x.c : Nat) : Int) < ((y.c : Nat) : Int))) = true ↔ _
  rw [tup_lt]
  unfold cLt
  by_cases h : x.c = y.c
  · rw [if_pos (by omega)]
    by_cases h2 : x.l = y.l
    · rw [if_pos (by rw [h2]), decide_eq_true_eq, h2, less_irrefl]
      simp
      omega
    · rw [if_neg (fun z => h2 (tup_inj z))]
      constructor
      · intro h3
        exact .inr ⟨h, .inl h3⟩
      · rintro (h3 | ⟨_, h3 | ⟨h3, _⟩⟩)
        · omega
        · exact h3
        · exact (h2 h3).elim
  · rw [if_neg (by omega), decide_eq_true_eq]
    omega
theorem c3_inj {x y : Cw} (h : c3 x = c3 y) : x = y := by
  obtain ⟨c, l, s⟩ := x
  obtain ⟨c', l', s'⟩ := y
  unfold c3 at h
  injection h with h1 h2 h3
  have e1 : c = c' := Int.ofNat.inj h1
  have e2 : l = l' := tup_inj h2
  have e3 : s = s' := Int.ofNat.inj h3
  rw [e1, e2, e3]
/-! ### the data of ways -/
theorem dp_nums {K : PySem.W.Frag} {H : Hp} : ∀ l : List Nat, DpAll K H (nums l) ((tup l).items.map PyData.int)
  | [] => .nil
  | a :: l => .cons (.int _) (dp_nums l)
theorem WyAt.dp {K : PySem.W.Frag} {H : Hp} {v : V} {w : Pn12.Way} (h : WyAt H v w) : Dp K H v (Datum.toD (w3 w)) := by
  obtain ⟨t, t2, rfl, h1, h2⟩ := h
  exact .tup (.of h1) (.cons (.int _) (.cons (.int _) (.cons (.tup (.of h2) (dp_nums w.l)) .nil)))
theorem CwAt.dp {K : PySem.W.Frag} {H : Hp} {v : V} {x : Cw} (h : CwAt H v x) : Dp K H v (Datum.toD (c3 x)) := by
  obtain ⟨t, t2, rfl, h1, h2⟩ := h
  exact .tup (.of h1) (.cons (.int _) (.cons (.tup (.of h2) (dp_nums x.l)) (.cons (.int _) .nil)))
theorem dpAll_of {K : PySem.W.Frag} {H : Hp} {β : Type} {R : V → β → Prop} {g : β → PyData} (k : ∀ v x, R v x → Dp K H v (g x)) : ∀ {vs : List V} {xs : List β}, Each R vs xs → DpAll K H vs (xs.map g)
  | [], [], _ => .nil
  | [], _ :: _, h => by have := h.len; simp at this
  | _ :: _, [], h => by have := h.len; simp at this
  | v :: vs, x :: xs, h => .cons (k v x h.cons_inv.1) (dpAll_of k h.cons_inv.2)
end Md

/-! still, needs, did. -/
namespace Md
open PySem PySem.Spec PyProof.Rows L2
section
variable {P : Program} {w : World} {K : PySem.W.Frag} {mg : Str → Option Value} {base : Heap} {A : Ad}
def bNone (c : Pn12.Call) : List Nat → Option Pn12.Call
  | [] => some c
  | _ => none
theorem bNone_inv {c c' : Pn12.Call} {ns : List Nat} (h : bNone c ns = some c') : c' = c := by
  unfold bNone at h
  split at h
  · cases h
    rfl
  · cases h
theorem ok_answer_still (T : Txt K mg A) : C8.CalAt P w K mg base 5 A.a_answer_still (spCall A (bNone .still)) := by
  have c_House_states_of : C8.Met P w K mg base 3 A.a_House "states_of" (spStates K A) [] := ok_House_states_of T
  have c_House_rest_does : C8.Met P w K mg base 4 A.a_House "rest_does" (spDoes A) [] := ok_House_rest_does T
  obtain ⟨fd, F, B, _⟩ := T.fn_answer_still
  refine ⟨fd, _, F.ok sc_answer_still (fun vs H Q E h => ?_) (fun cdv A' outer s H vs Q E hr h => ?_), T.kp_answer_still, B⟩
  · obtain ⟨N, h, la, l, m, ns, c, rfl, _⟩ := h
    rfl
  · obtain ⟨N, h, la, l, m, ns, c, rfl, gv, hb, q⟩ := h
    refine ⟨_, (pss_cons (ps_set (i := 2) sc_answer_still.nd rfl (Or.inl rfl) (C8.pe_mt c_House_states_of hr (by decide) (pv 0) (pa_cons (pe_fld (pv 0) rfl) pa_nil)))
      (pss_one (ps_ret (pe_lst (pa_cons (C8.pe_mt0 c_House_rest_does hr (by decide) (pv 0)) (pa_cons (pe_op op_sub (pe_callB call_len_seq (by rfl) T.n_len (by decide +kernel) (pa_cons (pv 2) pa_nil)) pe_int) (pa_cons (pe_ix ix_list (pv 2) (pe_un un_neg pe_int) (fun _ _ => rfl)) pa_nil))))))), ?_⟩
    obtain rfl := bNone_inv hb
    obtain ⟨dx, lr, ld, xs, h1, h2, h3, h4, h5, h6, h7, h8, h9⟩ := gv.house
    have hsz := gv.size
    obtain ⟨pre, cur, he⟩ := along_ne (m.rest.map m.task.act) m.now
    have hgo : pre.length = (along (m.rest.map m.task.act) m.now).length - 1 := by
      rw [he]
      simp
    have e : Pn12.step m .still = (m, ⟨(doesN m : Nat), [pre.length, cur]⟩) := by
      show (m, (let x := Pn12.far m.task 0 m.now m.rest; if x.1 < m.rest.length then (⟨0, [x.1, x.2]⟩ : Pn12.Ans) else if m.task.done x.2 = false then ⟨0, [x.1, x.2]⟩ else ⟨1, [x.1, x.2]⟩)) = _
      rw [far_along m.task m.rest 0 m.now gv.good.rest, lastS_of he, ← hgo, Nat.zero_add]
      dsimp only
      unfold doesN
      rw [plan_along gv.good.rest, lastS_of he]
      have hl := along_len (m.rest.map m.task.act) m.now
      rw [List.length_map] at hl
      have hpl : (along (m.rest.map m.task.act) m.now).length = pre.length + 1 := by rw [he]; simp
      rw [hpl] at hl ⊢
      by_cases c1 : pre.length < m.rest.length
      · have c2 : pre.length + 1 ≤ m.rest.length := c1
        rw [if_pos c1, if_pos c2]
        rfl
      · have c2 : ¬ pre.length + 1 ≤ m.rest.length := c1
        rw [if_neg c1, if_neg c2]
        cases m.task.done cur <;> rfl
    rw [e] at q
    refine ⟨_, rfl, h, dx, _, rfl, h1, hF_no (by decide +kernel), _, rfl, h, _, dx, _, _, rfl, h1, T.cl_House, T.na_House_rest, hF_rest, N, h, la, lr, m, m.rest, rfl, gv.house, .inl (.inl h4), gv.good.rest, by omega, fun H1 p s1 np hp => ?_⟩
    refine ⟨_, rfl, h, dx, _, rfl, s1 _ _ h1, hF_no (by decide +kernel), N, h, la, m, rfl, gv.house.same s1, gv.good.rest, by omega, fun H2 s2 => ?_⟩
    have hp2 := s2 _ _ hp
    have hp3 := hp2
    rw [he, nums_app] at hp2
    refine ⟨_, rfl, p, _, rfl, .inl (.inl (.inl hp2)), _, _, rfl, rfl, _, rfl, _, rfl, p, _, _, _, rfl, rfl, .inl (.inl hp2), atI_last _ _, (by show 3 ≤ sizeLine; decide), fun r nr => ?_⟩
    refine q.new (gv.house.same (s1.trans s2)) (.inl rfl) (fun b o z _ _ => s2 _ _ (s1 _ _ z)) nr ?_
    show [V.int (doesN m : Nat), V.int (((nums pre ++ nums [cur]).length : Int) - 1), V.int (cur : Int)] = [V.int (doesN m : Nat), V.int (pre.length : Int), V.int (cur : Int)]
    rw [List.length_append, nums_len, nums_len]
    simp
def spNeeds (K : PySem.W.Frag) (A : Ad) : Sp := fun vs H Q _ => ∃ (l : Addr) (xs : List Addr) (as : List Pn.Act) (g : Nat), vs = [.ref l, .int g] ∧ SqL K H l (xs.map V.ref) ∧ Acts A H xs as ∧
  ((nb g as).bind nbEnd = none → Q .non H) ∧ (∀ (x : Nat × Nat) (p : Addr), (nb g as).bind nbEnd = some x → H p = none → Q (.ref p) (upd H p (.tup [.int x.1, .int x.2])))
theorem nb_drop {g : Nat} {as : List Pn.Act} {i : Nat} {a : Pn.Act} {x : Nat × Nat} (hi : i < as.length) (ha : as[as.length - 1 - i]? = some a) (h : nb g (as.drop (as.length - i)) = some x) : nb g (as.drop (as.length - (i + 1))) = nbStep a x := by
  have e : as.length - (i + 1) = as.length - 1 - i := by omega
  have hlt : as.length - 1 - i < as.length := by omega
  rw [e, List.drop_eq_getElem_cons hlt]
  have ea : as[as.length - 1 - i] = a := by
    rw [List.getElem?_eq_getElem hlt] at ha
    exact Option.some.inj ha
  have e2 : as.length - 1 - i + 1 = as.length - i := by omega
  rw [ea, e2]
  show (nb g (as.drop (as.length - i))).bind (nbStep a) = _
  rw [h]
  rfl
theorem nb_none_more {g : Nat} : ∀ (l r : List Pn.Act), nb g r = none → nb g (l ++ r) = none
  | [], _, h => h
  | a :: l, r, h => by
    show (nb g (l ++ r)).bind (nbStep a) = none
    rw [nb_none_more l r h]
    rfl
theorem nb_none {g : Nat} {as : List Pn.Act} {i : Nat} (h : nb g (as.drop i) = none) : nb g as = none := by
  have := nb_none_more (as.take i) (as.drop i) h
  rw [List.take_append_drop] at this
  exact this
theorem v_ne0 (a : Nat) : (!decide (V.int (a : Int) = V.int 0)) = decide (a ≠ 0) := by
  rw [show decide (V.int (a : Int) = V.int 0) = decide (a = 0) from decide_eq_decide.mpr ⟨fun e => by injection e with e; omega, fun e => by rw [e]; rfl⟩]
  exact (decide_not).symm
theorem band_ne0 (a b : Nat) : (!decide (V.int (Builtin.bitAnd (a : Int) (b : Int)) = V.int 0)) = decide (a.land b ≠ 0) := by
  rw [band_nat]
  exact v_ne0 _
theorem ok_needs_of (T : Txt K mg A) : C8.Cal P w K mg base 1 "needs_of" (spNeeds K A) [] := by
  obtain ⟨fd, F, B, _⟩ := T.fn_needs_of
  refine ⟨_, fd, _, [], F.ok sc_needs_of (fun vs H Q E h => ?_) (fun cdv A' outer s H vs Q E hr h => ?_), T.g_needs_of, T.kp_needs_of, B, .nil⟩
  · obtain ⟨l, xs, as, g, rfl, _⟩ := h
    rfl
  · obtain ⟨l, xs, as, g, rfl, hl, ha, q1, q2⟩ := h
    refine ⟨_, (pss_cons (ps_set (i := 2) sc_needs_of.nd rfl (Or.inl rfl) (pv 1))
      (pss_cons (ps_set (i := 3) sc_needs_of.nd rfl (Or.inl rfl) pe_int)
      (pss_cons (ps_for PassesOwn.never rfl (pi_reversed (by rfl) T.n_reversed (pa_cons (pv 0) pa_nil)) (pg_name (i := 4) sc_needs_of.nd rfl (Or.inl rfl))
      (pss_cons (ps_set (i := 5) sc_needs_of.nd rfl (Or.inl rfl) (pe_op op_and (pe_fld (pv 4) rfl) (pe_un un_inv (pe_fld (pv 4) rfl))))
        (pss_cons (ps_if (PW.pt (pw_or (pt_cmpR op_ne (pe_op op_and (pv 2) (pv 5)) pe_int (nomark _)) (pw_or1 (pt_cmpR op_ne (pe_op op_and (pv 3) (pe_fld (pv 4) rfl)) pe_int (nomark _)))))
        (pss_one (ps_ret pe_non))
        pss_nil)
        (pss_cons (ps_set (i := 2) sc_needs_of.nd rfl (Or.inl rfl) (pe_op op_or (pe_op op_and (pv 2) (pe_un un_inv (pe_fld (pv 4) rfl))) (pe_fld (pv 4) rfl)))
        (pss_one (ps_set (i := 3) sc_needs_of.nd rfl (Or.inl rfl) (pe_op op_or (pe_op op_and (pv 3) (pe_un un_inv (pv 5))) (pe_fld (pv 4) rfl))))))))
      (pss_cons (ps_if (pt_cmpR op_ne (pe_op op_and (pv 2) (pv 3)) pe_int (nomark _))
      (pss_one (ps_ret pe_non))
      pss_nil)
      (pss_one (ps_ret (pe_tup (pa_cons (pv 2) (pa_cons (pv 3) pa_nil))))))))), ?_⟩
    have hlen : (xs.map V.ref).length = as.length := by rw [List.length_map]; exact ha.len
    refine ⟨_, rfl, ?_⟩
    refine ⟨_, rfl, l, _, rfl, hl, for_it walk_rev (fun i σ H' => H' = H ∧ ∃ (x : Nat × Nat) (v4 v5 : Option V), nb g (as.drop (as.length - i)) = some x ∧ σ = [some (.ref l), some (.int (g : Int)), some (.int (x.1 : Int)), some (.int (x.2 : Int)), v4, v5]) ?_ ?_ ?_ ?_⟩
    · refine ⟨rfl, (g, 0), none, none, ?_, rfl⟩
      rw [Nat.sub_zero, List.drop_of_length_le (Nat.le_refl _)]
      rfl
    · rintro i σ H' _ ⟨rfl, _⟩
      exact hl
    · rintro i y σ H' H2 hi ⟨rfl, x, v4, v5, hx, rfl⟩ ⟨rfl, hy⟩
      rw [hlen] at hi hy
      have hk : as.length - 1 - i < as.length := by omega
      have hak : as[as.length - 1 - i]? = some as[as.length - 1 - i] := List.getElem?_eq_getElem hk
      generalize as[as.length - 1 - i] = a at hak
      rw [List.getElem?_map] at hy
      cases hxk : xs[as.length - 1 - i]? with
      | none =>
        rw [hxk] at hy
        cases hy
      | some b =>
        rw [hxk] at hy
        cases hy
        obtain ⟨dx, hb⟩ := ha.at_ _ b a hxk hak
        have hst := nb_drop hi hak hx
        refine ⟨_, rfl, b, _, dx, _, _, rfl, hb, T.cl_Act, T.na_Act_taken, aF_taken a, _, rfl, b, _, dx, _, _, rfl, hb, T.cl_Act, T.na_Act_brought, aF_brought a, _, rfl, _, _, rfl, rfl, ?_⟩
        dsimp only
        rw [bandnot_nat]
        refine ⟨_, rfl, _, rfl, _, _, rfl, rfl, rfl, _, rfl, ?_⟩
        have bad : (x.1.land (a.del - a.del.land a.add) ≠ 0 ∨ x.2.land a.add ≠ 0) → Q .non H2 := fun hc => by
          refine q1 ?_
          have : nb g (as.drop (as.length - (i + 1))) = none := by
            rw [hst]
            exact if_pos hc
          rw [nb_none this]
          rfl
        refine ib (c' := decide (x.1.land (a.del - a.del.land a.add) ≠ 0)) (band_ne0 _ _) (fun c1 => ?_) (fun c1 => ?_)
        · exact itrue rfl (bad (.inl (of_decide_eq_true c1)))
        have c1 := of_decide_eq_false c1
        refine ⟨_, rfl, _, rfl, b, _, dx, _, _, rfl, hb, T.cl_Act, T.na_Act_brought, aF_brought a, _, _, rfl, rfl, rfl, _, rfl, ?_⟩
        refine ib (c' := decide (x.2.land a.add ≠ 0)) (band_ne0 _ _) (fun c2 => ?_) (fun c2 => ?_)
        · exact bad (.inr (of_decide_eq_true c2))
        have c2 := of_decide_eq_false c2
        refine ⟨_, rfl, _, rfl, b, _, dx, _, _, rfl, hb, T.cl_Act, T.na_Act_brought, aF_brought a, _, rfl, _, _, rfl, rfl, _, rfl, b, _, dx, _, _, rfl, hb, T.cl_Act, T.na_Act_needed, aF_needed a, _, _, rfl, rfl, ?_⟩
        refine ⟨_, rfl, _, rfl, _, rfl, _, _, rfl, rfl, _, rfl, b, _, dx, _, _, rfl, hb, T.cl_Act, T.na_Act_barred, aF_barred a, _, _, rfl, rfl, ?_⟩
        refine ⟨rfl, ((x.1 - x.1.land a.add).lor a.pre, (x.2 - x.2.land (a.del - a.del.land a.add)).lor a.no), some (.ref b), some (.int ((a.del - a.del.land a.add : Nat) : Int)), ?_, ?_⟩
        · rw [hst]
          exact if_neg fun z => z.elim c1 c2
        · dsimp only
          rw [bandnot_nat, bandnot_nat, bor_nat, bor_nat]
          rfl
    · rintro σ H' ⟨rfl, x, v4, v5, hx, rfl⟩
      rw [hlen, Nat.sub_self, List.drop_zero] at hx
      rw [hx] at q1 q2
      refine ⟨_, rfl, _, rfl, _, _, rfl, rfl, rfl, _, rfl, ?_⟩
      refine ib (c' := decide (x.1.land x.2 ≠ 0)) (band_ne0 _ _) (fun c1 => ?_) (fun c1 => ?_)
      · exact q1 (if_pos (of_decide_eq_true c1))
      · refine ⟨_, rfl, _, rfl, (by show 2 ≤ sizeLine; decide), fun p np => ?_⟩
        exact q2 x p (if_neg (of_decide_eq_false c1)) np
end
end Md

namespace Md
open PySem PySem.Spec PyProof.Rows L2
section
variable {P : Program} {w : World} {K : PySem.W.Frag} {mg : Str → Option Value} {base : Heap} {A : Ad}
theorem ok_answer_needs (T : Txt K mg A) : C8.CalAt P w K mg base 2 A.a_answer_needs (spCall A (bNone .needs)) := by
  have c_needs_of : C8.Cal P w K mg base 1 "needs_of" (spNeeds K A) [] := ok_needs_of T
  obtain ⟨fd, F, B, _⟩ := T.fn_answer_needs
  refine ⟨fd, _, F.ok sc_answer_needs (fun vs H Q E h => ?_) (fun cdv A' outer s H vs Q E hr h => ?_), T.kp_answer_needs, B⟩
  · obtain ⟨N, h, la, l, m, ns, c, rfl, _⟩ := h
    rfl
  · obtain ⟨N, h, la, l, m, ns, c, rfl, gv, hb, q⟩ := h
    refine ⟨_, (pss_cons (ps_set (i := 2) sc_answer_needs.nd rfl (Or.inl rfl) (C8.pe_c c_needs_of hr (by decide) (by rfl) (pa_cons (pe_lc (own := [("number", 3)]) (g := gName 3) (tt := tYes) (te := tOp (rIxL K) (tFld K (tVar 0) "acts") (tVar 3)) (by rfl) sc_answer_needs.nd (pi_list (pe_fld (pv 0) rfl)) (blkOk_by (own := [("number", 3)]) (N := n_answer_needs) (sc := defScope s_answer_needs) (by decide +kernel)) (fun _ _ _ _ _ => pg_name (i := 3) sc_answer_needs.nd rfl (Or.inl rfl)) (fun _ _ _ _ _ => pts_nil) (fun _ _ _ _ _ => by exact (pe_ix ix_list (pe_fld (pv 0) rfl) (pv 3) (fun _ _ => rfl)))) (pa_cons (pe_fld (pv 0) rfl) pa_nil))))
      (pss_cons (ps_if (pt_cmpR op_isN (pv 2) pe_non (nomark _))
      (pss_one (ps_ret (pe_lst (pa_cons (C8.pe_gc (by rfl) T.g_NO_PLAN) pa_nil))))
      pss_nil)
      (pss_one (ps_ret (pe_lst (pa_cons pe_int (pa_cons (pe_ix ix_tup (pv 2) pe_int (fun _ _ => rfl)) (pa_cons (pe_ix ix_tup (pv 2) pe_int (fun _ _ => rfl)) pa_nil)))))))), ?_⟩
    obtain rfl := bNone_inv hb
    obtain ⟨dx, lr, ld, xs, h1, h2, h3, h4, h5, h6, h7, h8, h9⟩ := gv.house
    have hsz := gv.size
    refine ⟨_, rfl, h, _, dx, _, _, rfl, h1, T.cl_House, T.na_House_rest, hF_rest, lr, rfl, ⟨_, .inl (.inl h4)⟩, fun D hD => lc_list (K := K) (a := lr) (xs := nums m.rest) (fun i H' => Same H H' ∧ ∃ ys, H' D = some (.lst (ys.map V.ref)) ∧ Acts A H' ys ((m.rest.take i).map m.task.act)) ?_ ?_ ?_ ?_⟩
    · exact ⟨same_new hD, [], upd_same, ⟨rfl, fun i x a e => by simp at e⟩⟩
    · rintro i H' _ ⟨sm, _⟩
      exact .inl (.inl (sm _ _ h4))
    · rintro i y H' hi ⟨sm, ys, hy, ha⟩
      cases hn : m.rest[i]? with
      | none =>
        unfold nums at hi
        rw [List.getElem?_map, hn] at hi
        cases hi
      | some k =>
        have e := nums_get hn
        rw [hi] at e
        cases e
        have hkl : k < m.task.acts.length := gv.good.rest k (List.mem_of_getElem? hn)
        have hxl : k < xs.length := by rw [h3.len]; exact hkl
        have hx : xs[k]? = some xs[k] := List.getElem?_eq_getElem hxl
        have hrx : (xs.map V.ref)[k]? = some (V.ref xs[k]) := by rw [List.getElem?_map, hx]; rfl
        have hil : i < m.rest.length := (List.getElem?_eq_some_iff.mp hn).1
        have hyl : ys.length = i := by
          rw [ha.len, List.length_map, List.length_take]
          omega
        refine ⟨rfl, ?_⟩
        refine tyes ?_
        refine ⟨_, rfl, h, _, dx, _, _, rfl, sm _ _ h1, T.cl_House, T.na_House_acts, hF_acts, _, rfl, la, _, _, _, rfl, rfl, .inl (.inl (sm _ _ h2)), atI_nat hrx, _, hy, ?_, fun b o e => ?_, ys ++ [xs[k]], ?_, ?_, ?_⟩
        · rw [List.length_map]
          show ys.length < 2 ^ 24
          omega
        · rw [upd_ne (ne_of_none e hD)]
          exact sm _ _ e
        · rw [upd_same, List.map_append]
          rfl
        · rw [List.length_append, hyl, List.length_map, List.length_take]
          simp
          omega
        · intro j x a e1 e2
          have hact : ∀ {x : Addr} {a : Pn.Act}, ActAt A.a_Act H' x a → ActAt A.a_Act (upd H' D (.lst (ys.map V.ref ++ [V.ref xs[k]]))) x a := fun {x a} ⟨dx', z⟩ => ⟨dx', by
            rw [upd_ne (ne_of z hy (by intro z; cases z))]
            exact z⟩
          rcases Nat.lt_trichotomy j i with hj | hj | hj
          · rw [List.getElem?_append_left (by omega)] at e1
            refine hact (ha.at_ j x a e1 ?_)
            rw [List.getElem?_map, List.getElem?_take] at e2 ⊢
            rw [if_pos (by omega)] at e2
            rw [if_pos hj]
            exact e2
          · subst hj
            rw [List.getElem?_append_right (by omega), hyl, Nat.sub_self] at e1
            cases e1
            rw [List.getElem?_map, List.getElem?_take, if_pos (by omega), hn] at e2
            cases e2
            exact hact ((h3.at_ k _ _ hx (act_get hkl)).same sm)
          · rw [List.getElem?_append_right (by omega), List.getElem?_eq_none (by simp; omega)] at e1
            cases e1
    · rintro H' ⟨sm, ys, hy, ha⟩
      rw [nums_len, List.take_length] at ha
      have hN : (nb m.task.goal (m.rest.map m.task.act)).bind nbEnd = Pn12.needs m.task m.rest := nb_needs m.rest gv.good.rest
      refine ⟨_, rfl, h, _, dx, _, _, rfl, sm _ _ h1, T.cl_House, T.na_House_wanted, hF_wanted, D, ys, m.rest.map m.task.act, m.task.goal, rfl, .inl (.inl hy), ha, fun hz => ?_, fun x p hz np => ?_⟩
      · rw [hN] at hz
        have e : Pn12.step m .needs = (m, Pn12.ok (-6)) := by
          show (m, match Pn12.needs m.task m.rest with | none => Pn12.ok (-6) | some x => ⟨0, [x.1, x.2]⟩) = _
          rw [hz]
        rw [e] at q
        refine ⟨_, rfl, rfl, _, rfl, itrue rfl ?_⟩
        refine ⟨(by show 1 ≤ sizeLine; decide), fun r nr => ?_⟩
        exact q.new (gv.house.same sm) (.inl rfl) (fun b o z _ _ => sm _ _ z) nr rfl
      · rw [hN] at hz
        have e : Pn12.step m .needs = (m, ⟨0, [x.1, x.2]⟩) := by
          show (m, match Pn12.needs m.task m.rest with | none => Pn12.ok (-6) | some x => ⟨0, [x.1, x.2]⟩) = _
          rw [hz]
        rw [e] at q
        have s2 : Same H (upd H' p (.tup [.int x.1, .int x.2])) := sm.trans (same_new np)
        refine ⟨_, rfl, rfl, _, rfl, ifalse rfl ?_⟩
        refine ⟨_, rfl, p, _, 0, _, rfl, rfl, .of upd_same, atI_nat (j := 0) rfl, _, rfl, p, _, 1, _, rfl, rfl, .of upd_same, atI_nat (j := 1) rfl, (by show 3 ≤ sizeLine; decide), fun r nr => ?_⟩
        exact q.new (gv.house.same s2) (.inl rfl) (fun b o z _ _ => s2 _ _ z) nr rfl
theorem price_sum (t : Pn.Task) : ∀ l : List Nat, (l.map fun k => ((t.act k).cost : Int)).sum = (t.price l : Nat)
  | [] => rfl
  | k :: l => by
    rw [price_cons, List.map_cons, List.sum_cons, price_sum t l]
    omega
theorem ok_answer_did (T : Txt K mg A) : C8.CalAt P w K mg base 2 A.a_answer_did (spCall A (bNone .did)) := by
  obtain ⟨fd, F, B, _⟩ := T.fn_answer_did
  refine ⟨fd, _, F.ok sc_answer_did (fun vs H Q E h => ?_) (fun cdv A' outer s H vs Q E hr h => ?_), T.kp_answer_did, B⟩
  · obtain ⟨N, h, la, l, m, ns, c, rfl, _⟩ := h
    rfl
  · obtain ⟨N, h, la, l, m, ns, c, rfl, gv, hb, q⟩ := h
    refine ⟨_, (pss_cons (ps_set (i := 2) sc_answer_did.nd rfl (Or.inl rfl) (pe_callB (cr_sum rfl) (by rfl) T.n_sum (by decide +kernel) (pa_cons (pe_lc (own := [("number", 3)]) (g := gName 3) (tt := tYes) (te := tFld K (tOp (rIxL K) (tFld K (tVar 0) "acts") (tVar 3)) "cost") (by rfl) sc_answer_did.nd (pi_list (pe_fld (pv 0) rfl)) (blkOk_by (own := [("number", 3)]) (N := n_answer_did) (sc := defScope s_answer_did) (by decide +kernel)) (fun _ _ _ _ _ => pg_name (i := 3) sc_answer_did.nd rfl (Or.inl rfl)) (fun _ _ _ _ _ => pts_nil) (fun _ _ _ _ _ => by exact (pe_fld (pe_ix ix_list (pe_fld (pv 0) rfl) (pv 3) (fun _ _ => rfl)) rfl))) pa_nil)))
      (pss_one (ps_ret (pe_op op_cat (pe_lst (pa_cons (pv 2) (pa_cons (pe_fld (pv 0) rfl) (pa_cons (pe_callB call_len_seq (by rfl) T.n_len (by decide +kernel) (pa_cons (pe_fld (pv 0) rfl) pa_nil)) pa_nil)))) (pe_fld (pv 0) rfl))))), ?_⟩
    obtain rfl := bNone_inv hb
    obtain ⟨dx, lr, ld, xs, h1, h2, h3, h4, h5, h6, h7, h8, h9⟩ := gv.house
    have hsz := gv.size
    have e : Pn12.step m .did = (m, ⟨(m.task.price m.did : Nat), [m.now, m.rest.length] ++ m.did⟩) := rfl
    rw [e] at q
    refine ⟨_, rfl, h, _, dx, _, _, rfl, h1, T.cl_House, T.na_House_done, hF_done, ld, rfl, ⟨_, .inl (.inl h5)⟩, fun D hD => lc_list (K := K) (a := ld) (xs := nums m.did) (fun i H' => Same H H' ∧ H' D = some (.lst (((m.did.take i).map fun k => ((m.task.act k).cost : Int)).map V.int))) ?_ ?_ ?_ ?_⟩
    · exact ⟨same_new hD, upd_same⟩
    · rintro i H' _ ⟨sm, _⟩
      exact .inl (.inl (sm _ _ h5))
    · rintro i y H' hi ⟨sm, hy⟩
      cases hn : m.did[i]? with
      | none =>
        unfold nums at hi
        rw [List.getElem?_map, hn] at hi
        cases hi
      | some k =>
        have e := nums_get hn
        rw [hi] at e
        cases e
        have hkl : k < m.task.acts.length := gv.good.did k (List.mem_of_getElem? hn)
        have hxl : k < xs.length := by rw [h3.len]; exact hkl
        have hx : xs[k]? = some xs[k] := List.getElem?_eq_getElem hxl
        have hrx : (xs.map V.ref)[k]? = some (V.ref xs[k]) := by rw [List.getElem?_map, hx]; rfl
        have hil : i < m.did.length := (List.getElem?_eq_some_iff.mp hn).1
        obtain ⟨dx', hxa⟩ := h3.at_ k _ _ hx (act_get hkl)
        refine ⟨rfl, ?_⟩
        refine tyes ?_
        refine ⟨_, rfl, h, _, dx, _, _, rfl, sm _ _ h1, T.cl_House, T.na_House_acts, hF_acts, _, rfl, la, _, _, _, rfl, rfl, .inl (.inl (sm _ _ h2)), atI_nat hrx, xs[k], _, dx', _, _, rfl, sm _ _ hxa, T.cl_Act, T.na_Act_cost, aF_cost _, _, hy, ?_, fun b o e => ?_, ?_⟩
        · rw [List.length_map, List.length_map, List.length_take]
          show min i m.did.length < 2 ^ 24
          omega
        · rw [upd_ne (ne_of_none e hD)]
          exact sm _ _ e
        · rw [upd_same, take_snoc hn, List.map_append, List.map_append]
          rfl
    · rintro H' ⟨sm, hy⟩
      rw [nums_len, List.take_length] at hy
      refine ⟨D, _, rfl, .inl (.inl hy), ?_⟩
      dsimp only
      rw [price_sum]
      refine ⟨_, rfl, _, rfl, h, _, dx, _, _, rfl, sm _ _ h1, T.cl_House, T.na_House_state, hF_state, _, rfl, h, _, dx, _, _, rfl, sm _ _ h1, T.cl_House, T.na_House_rest, hF_rest, lr, _, rfl, .inl (.inl (.inl (sm _ _ h4))), (by show 3 ≤ sizeLine; decide), fun r nr => ?_⟩
      have s2 := sm.trans (same_new (o := .lst [V.int (m.task.price m.did : Nat), V.int (m.now : Int), V.int ((nums m.rest).length : Int)]) nr)
      refine ⟨_, rfl, h, _, dx, _, _, rfl, s2 _ _ h1, T.cl_House, T.na_House_done, hF_done, r, ld, _, _, rfl, rfl, upd_same, s2 _ _ h5, ?_, fun p np => ?_⟩
      · have e3 : (nums m.did).length = m.did.length := nums_len _
        show 3 + (nums m.did).length ≤ 2 ^ 24
        omega
      · refine q.new (gv.house.same s2) (.inl rfl) (fun b o z _ _ => s2 _ _ z) np ?_
        unfold Pn12Neutral.out
        rw [nums_len]
        simp [nums]
end
end Md

/-! dearer_ways. -/
namespace Md
open PySem PySem.Spec PyProof.Rows L2
/-- t + (v,) -/
def rCatS (K : PySem.W.Frag) : R2 := fun x y H Q => ∃ a b xs v, x = .ref a ∧ y = .ref b ∧ SqT K H a xs ∧ H b = some (.tup [v]) ∧ xs.length + 1 ≤ sizeLine ∧ ∀ p H', Same H H' → H' p = some (.tup (xs ++ [v])) → Q (.ref p) H'
theorem op_catS {X : Cx} : OpR X (binaryOp .Add) (rCatS X.K) := by
  intro pins s σ H x y v u Q I rx ry h
  obtain ⟨a, b, xs, z, rfl, rfl, ha, hb, hl, q⟩ := h
  refine op_catA pins s σ H _ _ v u Q I rx ry ⟨a, b, xs, [z], rfl, rfl, ha, .of hb, hl, fun e => ?_, fun _ e => (by cases e), fun _ _ p np => q p _ (same_new np) upd_same⟩
  subst e
  exact q b H (Same.refl H) hb
/-- the ways on from a way, of the first n acts -/
def onC (t : Pn.Task) (x : Cw) : Nat → List Cw
  | 0 => []
  | n + 1 => onC t x n ++ (if (t.act n).may x.s = true then [⟨x.c + (t.act n).cost, x.l ++ [n], (t.act n).then_ x.s⟩] else [])
section
variable {P : Program} {w : World} {K : PySem.W.Frag} {mg : Str → Option Value} {base : Heap} {A : Ad}
def spDearer (K : PySem.W.Frag) (A : Ad) : Sp := fun vs H Q _ => ∃ (la wt : Addr) (t : Pn.Task) (xs : List Addr) (x : Cw), vs = [.ref la, .ref wt] ∧ SqL K H la (xs.map V.ref) ∧ Acts A H xs t.acts ∧ CwAt H (.ref wt) x ∧ x.l.length ≤ 1000 ∧ t.acts.length ≤ 8 ∧
  ∀ (H' : Hp) (p : Addr) (ys : List V), Same H H' → H p = none → H' p = some (.lst ys) → Each (CwAt H') ys (onC t x t.acts.length) → Q (.ref p) H'
theorem onC_len (t : Pn.Task) (x : Cw) : ∀ n, (onC t x n).length ≤ n
  | 0 => Nat.le_refl _
  | n + 1 => by
    have := onC_len t x n
    unfold onC
    rw [List.length_append]
    split <;> simp <;> omega
theorem ok_dearer_ways (T : Txt K mg A) : C8.Cal P w K mg base 2 "dearer_ways" (spDearer K A) [] := by
  have c_Act_may_be_done : C8.Met P w K mg base 1 A.a_Act "may_be_done" (spMay A) [] := ok_Act_may T
  have c_Act_state_behind : C8.Met P w K mg base 1 A.a_Act "state_behind" (spBehind A) [] := ok_Act_behind T
  obtain ⟨fd, F, B, _⟩ := T.fn_dearer_ways
  refine ⟨_, fd, _, [], F.ok sc_dearer_ways (fun vs H Q E h => ?_) (fun cdv A' outer s H vs Q E hr h => ?_), T.g_dearer_ways, T.kp_dearer_ways, B, .nil⟩
  · obtain ⟨la, wt, t, xs, x, rfl, _⟩ := h
    rfl
  · obtain ⟨la, wt, t, xs, x, rfl, hla, ha, hx, hxl, h8, q⟩ := h
    refine ⟨_, (pss_one (ps_ret (pe_lc (own := [("number", 2), ("act", 3)]) (g := gTup K 2 (gCons (gName 2) (gCons (gName 3) gNil))) (tt := tB (tMeth A.a_Act "may_be_done" (spMay A) [] E0 (tVar 3) (tCons (tOp (rIxT K) (tVar 1) (tC (.int 2))) tNil))) (te := tTup (tCons (tOp (rI0 fun i j => .int (i + j)) (tOp (rIxT K) (tVar 1) (tC (.int 0))) (tFld K (tVar 3) "cost")) (tCons (tOp (rCatS K) (tOp (rIxT K) (tVar 1) (tC (.int 1))) (tTup (tCons (tVar 2) tNil))) (tCons (tMeth A.a_Act "state_behind" (spBehind A) [] E0 (tVar 3) (tCons (tOp (rIxT K) (tVar 1) (tC (.int 2))) tNil)) tNil)))) (by rfl) sc_dearer_ways.nd (pi_enum (by rfl) T.n_enumerate (pa_cons (pv 0) pa_nil)) (blkOk_by (own := [("number", 2), ("act", 3)]) (N := n_dearer_ways) (sc := defScope s_dearer_ways) (by decide +kernel)) (fun _ _ _ _ _ => (pg_tup rfl (pgs_cons (pg_name (i := 2) sc_dearer_ways.nd rfl (Or.inl rfl)) (pgs_cons (pg_name (i := 3) sc_dearer_ways.nd rfl (Or.inl rfl)) pgs_nil)))) (fun _ _ _ _ _ => pts_one (pt_val (C8.pe_mt c_Act_may_be_done hr (by decide) (pv 3) (pa_cons (pe_ix ix_tup (pv 1) pe_int (fun _ _ => rfl)) pa_nil)))) (fun _ _ _ _ _ => by exact (pe_tup (pa_cons (pe_op op_add (pe_ix ix_tup (pv 1) pe_int (fun _ _ => rfl)) (pe_fld (pv 3) rfl)) (pa_cons (pe_op op_catS (pe_ix ix_tup (pv 1) pe_int (fun _ _ => rfl)) (pe_tup (pa_cons (pv 2) pa_nil))) (pa_cons (C8.pe_mt c_Act_state_behind hr (by decide) (pv 3) (pa_cons (pe_ix ix_tup (pv 1) pe_int (fun _ _ => rfl)) pa_nil)) pa_nil)))))))), ?_⟩
    obtain ⟨wt', w2, ew, hw1, hw2⟩ := hx
    cases ew
    have hlen : (xs.map V.ref).length = t.acts.length := by rw [List.length_map]; exact ha.len
    refine ⟨_, rfl, la, _, rfl, hla, fun D hD => lc_it (walk_enum (K := K) (a := la) (xs := xs.map V.ref)) (fun i H' => Same H H' ∧ ∃ ys, H' D = some (.lst ys) ∧ Each (CwAt H') ys (onC t x i)) ?_ ?_ ?_ ?_⟩
    · exact ⟨same_new hD, [], upd_same, Each.nil⟩
    · rintro i H' _ ⟨sm, _⟩
      exact sm.seq hla
    · rintro i v H1 H2 hi ⟨sm, ys, hy, he⟩ ⟨b0, v0, v1, rfl, nb0, rfl, e0, e1⟩
      cases e0
      rw [hlen] at hi
      have hxl' : i < xs.length := by rw [ha.len]; exact hi
      have hx1 : xs[i]? = some xs[i] := List.getElem?_eq_getElem hxl'
      generalize xs[i] = b at hx1
      dsimp only at e1
      rw [List.getElem?_map, hx1] at e1
      cases e1
      obtain ⟨dx, hb⟩ := ha.at_ i b (t.act i) hx1 (act_get hi)
      have s2 : Same H (upd H1 b0 (.tup [.int (i : Int), .ref b])) := sm.trans (same_new nb0)
      have hy2 : (upd H1 b0 (.tup [.int (i : Int), .ref b])) D = some (.lst ys) := same_new nb0 _ _ hy
      have he2 := he.imp fun _ _ z => CwAt.keep (TupK.new (o := .tup [.int (i : Int), .ref b]) nb0) z
      have hT : (upd H1 b0 (.tup [.int (i : Int), .ref b])) b0 = some (.tup [.int (i : Int), .ref b]) := upd_same
      generalize upd H1 b0 (.tup [.int (i : Int), .ref b]) = H2 at s2 hy2 he2 hT
      refine ⟨b0, _, rfl, .of hT, rfl, _, _, rfl, _, _, rfl, rfl, rfl, ?_⟩
      refine ⟨_, rfl, b, dx, _, rfl, s2 _ _ hb, aF_no _ (by decide +kernel), _, rfl, wt, _, 2, _, rfl, rfl, .of (s2 _ _ hw1), atI_nat (j := 2) rfl, b, t.act i, x.s, rfl, ⟨dx, s2 _ _ hb⟩, _, rfl, ?_⟩
      refine iboth (fun c1 => ?_) (fun c1 => ?_)
      · refine ⟨_, rfl, wt, _, 0, _, rfl, rfl, .of (s2 _ _ hw1), atI_nat (j := 0) rfl, _, rfl, b, _, dx, _, _, rfl, s2 _ _ hb, T.cl_Act, T.na_Act_cost, aF_cost _, _, _, rfl, rfl, ?_⟩
        refine ⟨_, rfl, wt, _, 1, _, rfl, rfl, .of (s2 _ _ hw1), atI_nat (j := 1) rfl, _, rfl, (by show 1 ≤ sizeLine; decide), fun u nu => ?_⟩
        refine ⟨w2, u, _, _, rfl, rfl, .of (same_new nu _ _ (s2 _ _ hw2)), upd_same, ?_, fun p H3 s3 hp => ?_⟩
        · rw [nums_len]
          show x.l.length + 1 ≤ 2 ^ 24
          omega
        have s3' := (same_new (o := .tup [.int (i : Int)]) nu).trans s3
        have s4 := s2.trans s3'
        refine ⟨_, rfl, b, dx, _, rfl, s4 _ _ hb, aF_no _ (by decide +kernel), _, rfl, wt, _, 2, _, rfl, rfl, .of (s4 _ _ hw1), atI_nat (j := 2) rfl, b, t.act i, x.s, rfl, ⟨dx, s4 _ _ hb⟩, (by show 3 ≤ sizeLine; decide), fun r nr => ?_⟩
        have s5 := s3'.trans (same_new (o := .tup [V.int ((x.c : Int) + ((t.act i).cost : Int)), V.ref p, V.int ((t.act i).then_ x.s : Nat)]) nr)
        refine ⟨ys, s5 _ _ hy2, ?_, fun b' o e => ?_, ys ++ [V.ref r], upd_same, ?_⟩
        · rw [he.len]
          have := onC_len t x i
          show (onC t x i).length < 2 ^ 24
          omega
        · rw [upd_ne (ne_of_none e hD)]
          exact s5 _ _ (s2 _ _ e)
        · have kD : TupK (upd H3 r (.tup [V.int ((x.c : Int) + ((t.act i).cost : Int)), V.ref p, V.int ((t.act i).then_ x.s : Nat)])) (upd (upd H3 r (.tup [V.int ((x.c : Int) + ((t.act i).cost : Int)), V.ref p, V.int ((t.act i).then_ x.s : Nat)])) D (.lst (ys ++ [V.ref r]))) := TupK.at (s5 _ _ hy2) (fun xs z => by cases z)
          unfold onC
          rw [if_pos c1]
          refine Each.snoc (he2.imp fun _ _ z => (z.keep (TupK.same s5)).keep kD) (CwAt.keep kD ⟨r, p, rfl, ?_, ?_⟩)
          · exact upd_same
          · rw [nums_app]
            exact same_new nr _ _ hp
      · refine ⟨s2, ys, hy2, ?_⟩
        unfold onC
        rw [c1, if_neg Bool.false_ne_true, List.append_nil]
        exact he2
    · rintro H' ⟨sm, ys, hy, he⟩
      rw [hlen] at he
      exact q H' D ys sm hD hy he
end
end Md

/-! cheapest_plan. -/
namespace Md
open PySem PySem.Spec PyProof.Rows L2
open PySem.W (Datum DatumOrd dataLt)
theorem cLt_trans {x y z : Cw} (h : cLt x y) (k : cLt y z) : cLt x z := by
  unfold cLt at *
  rcases h with h | ⟨e, h⟩
  · rcases k with k | ⟨e', _⟩
    · exact .inl (by omega)
    · exact .inl (by omega)
  · rcases k with k | ⟨e', k⟩
    · exact .inl (by omega)
    · refine .inr ⟨by omega, ?_⟩
      rcases h with h | ⟨e1, h⟩
      · rcases k with k | ⟨e2, k⟩
        · exact .inl (less_trans h k)
        · exact .inl (e2 ▸ h)
      · rcases k with k | ⟨e2, k⟩
        · exact .inl (e1 ▸ k)
        · exact .inr ⟨e1.trans e2, by omega⟩
def cD (x : Cw) : PyData := Datum.toD (c3 x)
theorem cD_map (C : List Cw) : C.map cD = (C.map c3).map Datum.toD := by
  rw [List.map_map]
  rfl
theorem cD_lt (x y : Cw) : dataLt (cD x) (cD y) = true ↔ cLt x y := by
  unfold cD
  rw [DatumOrd.lt_eq]
  exact c3_lt x y
theorem cD_trans {C : List Cw} : ∀ x ∈ C.map cD, ∀ y ∈ C.map cD, ∀ z ∈ C.map cD, dataLt x y = true → dataLt y z = true → dataLt x z = true := by
  intro x hx y hy z hz h k
  obtain ⟨a, _, rfl⟩ := List.mem_map.mp hx
  obtain ⟨b, _, rfl⟩ := List.mem_map.mp hy
  obtain ⟨c, _, rfl⟩ := List.mem_map.mp hz
  rw [cD_lt] at *
  exact cLt_trans h k
theorem cD_place {C : List Cw} {x : Cw} (h : x ∈ C) : ∃ j, SeqAt.dataPlace (C.map cD) (cD x) = some j ∧ C[j]? = some x := by
  cases e : SeqAt.dataPlace (C.map cD) (cD x) with
  | none =>
    have := List.findIdx?_eq_none_iff.mp e (cD x) (List.mem_map_of_mem h)
    unfold cD at this
    rw [Datum.eqv, decide_eq_true rfl] at this
    cases this
  | some j =>
    refine ⟨j, rfl, ?_⟩
    obtain ⟨h1, h2, _⟩ := List.findIdx?_eq_some_iff_getElem.mp e
    rw [List.length_map] at h1
    rw [List.getElem_map] at h2
    unfold cD at h2
    rw [Datum.eqv, decide_eq_true_eq] at h2
    rw [List.getElem?_eq_getElem h1, c3_inj h2]
def pairC (x : Cw) : List Nat × Nat := (x.l, x.s)
theorem onC_pair (t : Pn.Task) (x : Cw) : (onC t x t.acts.length).map pairC = onward t (pairC x) := by
  unfold onward
  generalize t.acts.length = n
  induction n with
  | zero => rfl
  | succ n ih =>
    rw [List.range_succ, List.filterMap_append]
    unfold onC
    rw [List.map_append, ih]
    refine congrArg _ ?_
    show _ = List.filterMap _ [n]
    by_cases h : (t.act n).may x.s = true
    · have h' : (t.act n).may (pairC x).2 = true := h
      rw [if_pos h, List.filterMap_cons, if_pos h']
      rfl
    · have h' : ¬ (t.act n).may (pairC x).2 = true := h
      rw [if_neg h, List.filterMap_cons, if_neg h']
      rfl
theorem price_snoc (t : Pn.Task) (l : List Nat) (k : Nat) : t.price (l ++ [k]) = t.price l + (t.act k).cost := by
  rw [price_append, price_cons, price_nil]
  omega
theorem onC_price {t : Pn.Task} {x : Cw} (h : x.c = t.price x.l) : ∀ n, ∀ y ∈ onC t x n, y.c = t.price y.l
  | 0, y, hy => by cases hy
  | n + 1, y, hy => by
    unfold onC at hy
    rcases List.mem_append.mp hy with hy | hy
    · exact onC_price h n y hy
    · split at hy
      · rw [List.mem_singleton] at hy
        subst hy
        show x.c + _ = _
        rw [price_snoc, h]
      · cases hy
theorem erase_map {α β : Type} (f : α → β) : ∀ (l : List α) (j : Nat), (l.eraseIdx j).map f = (l.map f).eraseIdx j
  | [], j => by simp
  | a :: r, 0 => by simp
  | a :: r, j + 1 => by
    have ih := erase_map f r j
    simp [ih]
/-- what holds between two turns -/
structure Tn (t : Pn.Task) (s0 : Nat) (H : Hp) (lw d : Addr) (H' : Hp) (vs : List V) (kvs : List (Key × V)) (C : List Cw) (E : List (Nat × List Nat)) : Prop where
  same : Same H H'
  lst : H' lw = some (.lst vs)
  dict : H' d = some (.dK kvs)
  each : Each (CwAt H') vs C
  keys : kvs.map (·.1) = E.map fun y => (Sum.inl ((y.1 : Nat) : Int) : Key)
  price : ∀ x ∈ C, x.c = t.price x.l
  dij : Dij t s0 (C.map pairC) E
  small : vs.length ≤ 8 * E.length + 1
def msr (lw d : Addr) (H : Hp) : Nat := match H lw, H d with
  | some (.lst vs), some (.dK kvs) => 9 * (32 - kvs.length) + vs.length
  | _, _ => 0
theorem msr_of {lw d : Addr} {H : Hp} {vs : List V} {kvs : List (Key × V)} (h1 : H lw = some (.lst vs)) (h2 : H d = some (.dK kvs)) : msr lw d H = 9 * (32 - kvs.length) + vs.length := by
  unfold msr
  rw [h1, h2]
theorem key_mem {E : List (Nat × List Nat)} {kvs : List (Key × V)} {n : Nat} (h : kvs.map (·.1) = E.map fun y => (Sum.inl ((y.1 : Nat) : Int) : Key)) : (Sum.inl ((n : Nat) : Int) : Key) ∈ kvs.map (·.1) ↔ n ∈ E.map (·.1) := by
  rw [h]
  constructor
  · intro k
    obtain ⟨y, hy, e⟩ := List.mem_map.mp k
    refine List.mem_map.mpr ⟨y, hy, ?_⟩
    have e : (y.1 : Int) = (n : Int) := by injection e
    show y.1 = n
    omega
  · intro k
    obtain ⟨y, hy, e⟩ := List.mem_map.mp k
    exact List.mem_map.mpr ⟨y, hy, by show (Sum.inl ((y.1 : Nat) : Int) : Key) = _; rw [show y.1 = n from e]⟩
section
variable {P : Program} {w : World} {K : PySem.W.Frag} {mg : Str → Option Value} {base : Heap} {A : Ad}
def spCheap (K : PySem.W.Frag) (A : Ad) : Sp := fun vs H Q _ => ∃ (la : Addr) (xs : List Addr) (t : Pn.Task) (s0 : Nat), vs = [.ref la, .int s0, .int t.goal] ∧ H la = some (.lst (xs.map V.ref)) ∧ Acts A H xs t.acts ∧ WF t ∧ s0 < 2 ^ t.facts ∧ t.facts ≤ 5 ∧ t.acts.length ≤ 8 ∧
  (t.first s0 = none → ∀ H', Same H H' → Q .non H') ∧ (∀ l H' p p2, t.first s0 = some l → l.length ≤ 1000 → Same H H' → H' p = some (.tup [.int (t.price l : Nat), .ref p2]) → H' p2 = some (.tup (nums l)) → Q (.ref p) H')
theorem ok_cheapest_plan (T : Txt K mg A) : C8.Cal P w K mg base 3 "cheapest_plan" (spCheap K A) [] := by
  have c_dearer_ways : C8.Cal P w K mg base 2 "dearer_ways" (spDearer K A) [] := ok_dearer_ways T
  obtain ⟨fd, F, B, _⟩ := T.fn_cheapest_plan
  refine ⟨_, fd, _, [], F.ok sc_cheapest_plan (fun vs H Q E h => ?_) (fun cdv A' outer s H vs Q E hr h => ?_), T.g_cheapest_plan, T.kp_cheapest_plan, B, .nil⟩
  · obtain ⟨la, xs, t, s0, rfl, _⟩ := h
    rfl
  · obtain ⟨la, xs, t, s0, rfl, hla, ha, hW, hs0, h5, h8, q1, q2⟩ := h
    refine ⟨_, (pss_cons (ps_set (i := 3) sc_cheapest_plan.nd rfl (Or.inl rfl) (pe_lst (pa_cons (pe_tup (pa_cons pe_int (pa_cons (pe_tup pa_nil) (pa_cons (pv 1) pa_nil)))) pa_nil)))
      (pss_cons (ps_set (i := 4) sc_cheapest_plan.nd rfl (Or.inl rfl) pe_dnewK)
      (pss_cons (ps_while PassesOwn.never (pt_cmpR op_gt (pe_callB call_len_seq (by rfl) T.n_len (by decide +kernel) (pa_cons (pv 3) pa_nil)) pe_int (nomark _))
      (pss_cons (ps_set (i := 5) sc_cheapest_plan.nd rfl (Or.inl rfl) (pe_callB (cr_minD rfl hr.units) (by rfl) T.n_min (by decide +kernel) (pa_cons (pv 3) pa_nil)))
        (pss_cons (ps_expr (pe_bm PySem.F.plainAttrs_list PySem.F.slot_list_remove PySem.F.type_list_remove (mt_removeD hr.units) (pv 3) (pa_cons (pv 5) pa_nil)))
        (pss_cons (ps_set (i := 6) sc_cheapest_plan.nd rfl (Or.inl rfl) (pe_ix ix_tup (pv 5) pe_int (fun _ _ => rfl)))
        (pss_cons (ps_if (pt_cmpR op_eq (pe_op op_and (pv 6) (pv 2)) (pv 2) (nomark _))
        (pss_one (ps_ret (pe_tup (pa_cons (pe_ix ix_tup (pv 5) pe_int (fun _ _ => rfl)) (pa_cons (pe_ix ix_tup (pv 5) pe_int (fun _ _ => rfl)) pa_nil)))))
        pss_nil)
        (pss_one (ps_if (pt_cmp (pc_dnotin (hu_of hr) (pv 6) (pv 4)))
        (pss_cons (ps_dput (hu_of hr) (pv 4) (pv 6) pe_bl rfl)
          (pss_one (ps_expr (pe_bm PySem.F.plainAttrs_list PySem.F.slot_list_extend PySem.F.type_list_extend mt_extend (pv 3) (pa_cons (C8.pe_c c_dearer_ways hr (by decide) (by rfl) (pa_cons (pv 0) (pa_cons (pv 5) pa_nil))) pa_nil)))))
        pss_nil)))))))
      (pss_one (ps_ret pe_non))))), ?_⟩
    have h32 : 2 ^ t.facts ≤ 32 := Nat.pow_le_pow_right (by decide : 0 < 2) h5
    -- ways = [(0, (), state)]
    refine ⟨(by show 0 ≤ sizeLine; decide), fun a2 n2 => ⟨_, rfl, (by show 3 ≤ sizeLine; decide), fun a1 n1 => ⟨(by show 1 ≤ sizeLine; decide), fun lw nlw => ?_⟩⟩⟩
    have k2 := same_new (o := .tup []) n2
    have k1 := same_new (o := .tup [.int 0, .ref a2, .int (s0 : Int)]) n1
    have kw := same_new (o := .lst [.ref a1]) nlw
    have S1 : Same H (upd (upd (upd H a2 (.tup [])) a1 (.tup [.int 0, .ref a2, .int (s0 : Int)])) lw (.lst [.ref a1])) := k2.trans (k1.trans kw)
    have hlw0 : H lw = none := (k2.trans k1).free nlw
    -- passed = {}
    refine fun d nd => ?_
    have kd := same_new (o := .dK []) nd
    have hd0 : H d = none := S1.free nd
    have hne : lw ≠ d := fun z => by rw [← z, upd_same] at nd; cases nd
    refine while_by (fun σ H' => ∃ (v5 v6 : Option V) (vs : List V) (kvs : List (Key × V)) (C : List Cw) (E : List (Nat × List Nat)), σ = [some (.ref la), some (.int (s0 : Int)), some (.int (t.goal : Int)), some (.ref lw), some (.ref d), v5, v6] ∧ Tn t s0 H lw d H' vs kvs C E)
      (fun _ H' => msr lw d H') ?_ ?_ ?_
    · refine ⟨none, none, [.ref a1], [], [⟨0, [], s0⟩], [], rfl, ⟨S1.trans kd, kd _ _ upd_same, upd_same, Each.one ?_, rfl, ?_, dij_init t s0, (by show 1 ≤ 8 * 0 + 1; decide)⟩⟩
      · refine ⟨a1, a2, rfl, kd _ _ (kw _ _ upd_same), kd _ _ (kw _ _ (k1 _ _ upd_same))⟩
      · intro x hx
        rw [List.mem_singleton] at hx
        subst hx
        rfl
    · rintro σ H' ⟨v5, v6, vs, kvs, C, E, rfl, tn⟩
      refine ⟨_, rfl, lw, _, rfl, .inl (.inl (.inl tn.lst)), _, _, rfl, rfl, _, rfl, ?_⟩
      have hvl := tn.each.len
      refine ib (c' := decide (0 < C.length)) (decide_eq_decide.mpr (by omega)) (fun c1 => ?_) (fun c1 => ?_)
      · have c1 := of_decide_eq_true c1
        -- way = min(ways)
        refine ⟨_, rfl, lw, vs, C.map cD, rfl, .inl (.inl tn.lst), dpAll_of (fun v x z => z.dp) tn.each, (by rw [cD_map]; exact PySem.W.alikeAll_datum _), (by rw [cD_map]; exact Nat.le_trans (PySem.W.depthAll_map _) (by decide)), (by rw [List.length_map]; exact c1), cD_trans, fun i v dv hv hdv hmin => ?_⟩
        obtain ⟨x, hx, hxv⟩ := tn.each.get hv
        rw [List.getElem?_map, hx] at hdv
        cases hdv
        have hxC : x ∈ C := List.mem_of_getElem? hx
        have hle : ∀ y ∈ C, LeP t x.l y.l := fun y hy => by
          have := hmin _ (List.mem_map_of_mem hy)
          have hn : ¬ cLt y x := fun z => by
            rw [(cD_lt y x).mpr z] at this
            cases this
          have p1 := tn.price x hxC
          have p2 := tn.price y hy
          unfold cLt at hn
          unfold LeP
          rw [← p1, ← p2]
          rcases Nat.lt_trichotomy x.c y.c with h | h | h
          · exact .inl h
          · refine .inr ⟨h, ?_⟩
            rcases less_total x.l y.l with k | k | k
            · exact .inr k
            · exact .inl k
            · exact (hn (.inr ⟨h.symm, .inl k⟩)).elim
          · exact (hn (.inl h)).elim
        obtain ⟨j, hj, hCj⟩ := cD_place hxC
        -- ways.remove(way)
        refine ⟨_, rfl, .inl ⟨rfl, _, .inl (.inl tn.lst)⟩, _, rfl, lw, vs, v, C.map cD, cD x, j, rfl, rfl, tn.lst, dpAll_of (fun v x z => z.dp) tn.each, hxv.dp, (by rw [cD_map]; exact PySem.W.plainAll_map _), Datum.plain (c3 x), Nat.le_trans (Datum.depth_le (c3 x)) (by decide), hj, ?_⟩
        have kt : TupK H' (upd H' lw (.lst (vs.eraseIdx j))) := TupK.at tn.lst (fun xs z => by cases z)
        have hl2 : (upd H' lw (.lst (vs.eraseIdx j))) lw = some (.lst (vs.eraseIdx j)) := upd_same
        have hd2 : (upd H' lw (.lst (vs.eraseIdx j))) d = some (.dK kvs) := by rw [upd_ne (Ne.symm hne)]; exact tn.dict
        have S2 : Same H (upd H' lw (.lst (vs.eraseIdx j))) := fun b o e => by
          rw [upd_ne (ne_of_none e hlw0)]
          exact tn.same _ _ e
        have he2 := (tn.each.erase j).imp fun _ _ z => CwAt.keep kt z
        have hxv2 := hxv.keep kt
        generalize upd H' lw (.lst (vs.eraseIdx j)) = H2 at hl2 hd2 S2 he2 hxv2
        obtain ⟨wt, w2, rfl, hw1, hw2⟩ := id hxv2
        have hjl : j < C.length := (List.getElem?_eq_some_iff.mp hCj).1
        have hel : (vs.eraseIdx j).length = C.length - 1 := by
          rw [List.length_eraseIdx, if_pos (by omega), hvl]
        have hpC : (C.map pairC)[j]? = some (pairC x) := by rw [List.getElem?_map, hCj]; rfl
        have hmP : ∀ y ∈ C.map pairC, LeP t (pairC x).1 y.1 := fun y hy => by
          obtain ⟨z, hz, rfl⟩ := List.mem_map.mp hy
          exact hle z hz
        have hxl : x.l.length ≤ E.length := tn.dij.len (pairC x) (List.mem_of_getElem? hpC)
        have hEf := tn.dij.few hW hs0
        have hkl : kvs.length = E.length := by
          have := congrArg List.length tn.keys
          rw [List.length_map, List.length_map] at this
          exact this
        -- here = way[2]
        refine ⟨_, rfl, wt, _, 2, _, rfl, rfl, .of hw1, atI_nat (j := 2) rfl, ?_⟩
        refine ⟨_, rfl, _, rfl, _, _, rfl, rfl, _, rfl, rfl, _, rfl, ?_⟩
        refine ib (c' := t.done x.s) ?_ (fun c2 => ?_) (fun c2 => ?_)
        · show decide (V.int (Builtin.bitAnd (x.s : Int) (t.goal : Int)) = V.int (t.goal : Int)) = _
          rw [band_nat, v_eq, land_comm]
          rfl
        · -- found
          have hf := IsFirst.unique (first_is hW hs0) (tn.dij.yes hW (x := pairC x) (List.mem_of_getElem? hpC) c2 hmP)
          refine ⟨_, rfl, wt, _, 0, _, rfl, rfl, .of hw1, atI_nat (j := 0) rfl, _, rfl, wt, _, 1, _, rfl, rfl, .of hw1, atI_nat (j := 1) rfl, (by show 2 ≤ sizeLine; decide), fun r nr => ?_⟩
          have kr := same_new (o := .tup [.int (x.c : Int), .ref w2]) nr
          refine q2 x.l _ r w2 hf (by omega) (S2.trans kr) ?_ (kr _ _ hw2)
          rw [← tn.price x hxC]
          exact upd_same
        · refine ⟨_, rfl, _, rfl, d, _, rfl, DGet.k (k := Sum.inl (x.s : Int)) hd2, _, rfl, ?_⟩
          cases hv : valV kvs (Sum.inl (x.s : Int)) with
          | some y =>
            -- passed
            have hin : x.s ∈ E.map (·.1) := (key_mem tn.keys).mp (valV_in hv)
            obtain ⟨⟨v', le⟩, hy, ey⟩ := List.mem_map.mp hin
            cases ey
            refine ifalse rfl ?_
            refine ⟨⟨some (.ref wt), some (.int (x.s : Int)), vs.eraseIdx j, kvs, C.eraseIdx j, E, rfl, ⟨S2, hl2, hd2, he2, tn.keys, fun y hy => tn.price y (List.mem_of_mem_eraseIdx hy), ?_, by have := tn.small; omega⟩⟩, ?_⟩
            · have := tn.dij.drop hpC hy
              rw [← erase_map] at this
              exact this
            · rw [msr_of tn.lst tn.dict, msr_of hl2 hd2]
              omega
          | none =>
            have hnin : x.s ∉ E.map (·.1) := fun z => valV_not hv ((key_mem tn.keys).mpr z)
            refine itrue rfl ?_
            have hpl : kvs.length < sizeLine := by
              show kvs.length < 2 ^ 24
              omega
            refine ⟨_, rfl, _, rfl, d, _, rfl, DPut.k (k := Sum.inl (x.s : Int)) hd2 hpl, ?_⟩
            rw [putK_new _ hv]
            have kt3 : TupK H2 (upd H2 d (.dK (kvs ++ [(Sum.inl (x.s : Int), .bl true)]))) := TupK.at hd2 (fun xs z => by cases z)
            have hl3 : (upd H2 d (.dK (kvs ++ [(Sum.inl (x.s : Int), .bl true)]))) lw = some (.lst (vs.eraseIdx j)) := by rw [upd_ne hne]; exact hl2
            have hd3 : (upd H2 d (.dK (kvs ++ [(Sum.inl (x.s : Int), .bl true)]))) d = some (.dK (kvs ++ [(Sum.inl (x.s : Int), .bl true)])) := upd_same
            have S3 : Same H (upd H2 d (.dK (kvs ++ [(Sum.inl (x.s : Int), .bl true)]))) := fun b o e => by
              rw [upd_ne (ne_of_none e hd0)]
              exact S2 _ _ e
            have he3 := he2.imp fun _ _ z => CwAt.keep kt3 z
            have hx3 := hxv2.keep kt3
            generalize upd H2 d (.dK (kvs ++ [(Sum.inl (x.s : Int), .bl true)])) = H3 at hl3 hd3 S3 he3 hx3
            refine ⟨_, rfl, .inl ⟨rfl, _, .inl (.inl hl3)⟩, _, rfl, _, rfl, la, wt, t, xs, x, rfl, .inl (.inl (S3 _ _ hla)), ha.mono (fun y a z => z.same S3), hx3, by omega, h8, fun H4 p ys s4 np hp hys => ?_⟩
            have hyl := hys.len
            have hol := onC_len t x t.acts.length
            have hnp : lw ≠ p := fun z => by rw [← z, hl3] at np; cases np
            refine ⟨lw, p, _, _, rfl, rfl, s4 _ _ hl3, hp, ?_, ?_⟩
            · show (vs.eraseIdx j).length + ys.length ≤ 2 ^ 24
              have := tn.small
              omega
            have kt4 : TupK H4 (upd H4 lw (.lst (vs.eraseIdx j ++ ys))) := TupK.at (s4 _ _ hl3) (fun xs z => by cases z)
            have hd5 : (upd H4 lw (.lst (vs.eraseIdx j ++ ys))) d = some (.dK (kvs ++ [(Sum.inl (x.s : Int), .bl true)])) := by rw [upd_ne (Ne.symm hne)]; exact s4 _ _ hd3
            have dj := tn.dij.go hW hpC hmP hnin c2
            rw [← erase_map, ← onC_pair, ← List.map_append] at dj
            refine ⟨⟨some (.ref wt), some (.int (x.s : Int)), vs.eraseIdx j ++ ys, kvs ++ [(Sum.inl (x.s : Int), .bl true)], C.eraseIdx j ++ onC t x t.acts.length, E ++ [(x.s, x.l)], rfl, ⟨fun b o e => ?_, upd_same, hd5, (he3.imp fun _ _ z => (z.keep (TupK.same s4)).keep kt4).append (hys.imp fun _ _ z => z.keep kt4), ?_, fun y hy => ?_, dj, ?_⟩⟩, ?_⟩
            · rw [upd_ne (ne_of_none e hlw0)]
              exact s4 _ _ (S3 _ _ e)
            · rw [List.map_append, List.map_append, tn.keys]
              rfl
            · rcases List.mem_append.mp hy with hy | hy
              · exact tn.price y (List.mem_of_mem_eraseIdx hy)
              · exact onC_price (tn.price x hxC) _ y hy
            · rw [List.length_append, List.length_append]
              have := tn.small
              simp only [List.length_singleton]
              omega
            · have hfew := dj.few hW hs0
              rw [List.length_append, List.length_singleton] at hfew
              rw [msr_of tn.lst tn.dict, msr_of upd_same hd5, List.length_append, List.length_append, List.length_singleton]
              omega
      · have c1 := of_decide_eq_false c1
        obtain rfl : C = [] := List.eq_nil_of_length_eq_zero (by omega)
        exact q1 (IsFirst.unique (first_is hW hs0) (tn.dij.no hW)) H' tn.same
    · rintro σ H Q Q' hq ⟨v, e1, p, ys, e2, e3, i, j, e4, e5, k, e6, z⟩
      exact ⟨v, e1, p, ys, e2, e3, i, j, e4, e5, k, e6, hq _ _ z⟩
end
end Md

/-! fresh. -/
namespace Md
open PySem PySem.Spec PyProof.Rows L2
section
variable {P : Program} {w : World} {K : PySem.W.Frag} {mg : Str → Option Value} {base : Heap} {A : Ad}
theorem ok_answer_fresh (T : Txt K mg A) : C8.CalAt P w K mg base 4 A.a_answer_fresh (spCall A (bNone .fresh)) := by
  have c_cheapest_plan : C8.Cal P w K mg base 3 "cheapest_plan" (spCheap K A) [] := ok_cheapest_plan T
  obtain ⟨fd, F, B, _⟩ := T.fn_answer_fresh
  refine ⟨fd, _, F.ok sc_answer_fresh (fun vs H Q E h => ?_) (fun cdv A' outer s H vs Q E hr h => ?_), T.kp_answer_fresh, B⟩
  · obtain ⟨N, h, la, l, m, ns, c, rfl, _⟩ := h
    rfl
  · obtain ⟨N, h, la, l, m, ns, c, rfl, gv, hb, q⟩ := h
    refine ⟨_, (pss_cons (ps_set (i := 2) sc_answer_fresh.nd rfl (Or.inl rfl) (C8.pe_c c_cheapest_plan hr (by decide) (by rfl) (pa_cons (pe_fld (pv 0) rfl) (pa_cons (pe_fld (pv 0) rfl) (pa_cons (pe_fld (pv 0) rfl) pa_nil)))))
      (pss_cons (ps_if (pt_cmpR op_isN (pv 2) pe_non (nomark _))
      (pss_one (ps_ret (pe_lst (pa_cons (C8.pe_gc (by rfl) T.g_NO_PLAN) pa_nil))))
      pss_nil)
      (pss_one (ps_ret (pe_op op_cat (pe_lst (pa_cons (pe_ix ix_tup (pv 2) pe_int (fun _ _ => rfl)) pa_nil)) (pe_callTy call_list_of (by rfl) T.n_list (by decide +kernel) (pa_cons (pe_ix ix_tup (pv 2) pe_int (fun _ _ => rfl)) pa_nil))))))), ?_⟩
    obtain rfl := bNone_inv hb
    obtain ⟨dx, lr, ld, xs, h1, h2, h3, h4, h5, h6, h7, h8, h9⟩ := gv.house
    refine ⟨_, rfl, h, _, dx, _, _, rfl, h1, T.cl_House, T.na_House_acts, hF_acts, _, rfl, h, _, dx, _, _, rfl, h1, T.cl_House, T.na_House_state, hF_state, _, rfl, h, _, dx, _, _, rfl, h1, T.cl_House, T.na_House_wanted, hF_wanted, la, xs, m.task, m.now, rfl, h2, h3, gv.good.wf, gv.good.now, gv.good.facts.2, gv.good.acts, fun hf H' sm => ?_, fun l' H' p p2 hf hl sm hp hp2 => ?_⟩
    · have e : Pn12.step m .fresh = (m, Pn12.ok (-6)) := by
        show (m, match m.task.first m.now with | none => Pn12.ok (-6) | some l => ⟨(m.task.price l : Nat), l⟩) = _
        rw [hf]
      rw [e] at q
      refine ⟨_, rfl, rfl, _, rfl, itrue rfl ?_⟩
      refine ⟨(by show 1 ≤ sizeLine; decide), fun r nr => ?_⟩
      exact q.new (gv.house.same sm) (.inl rfl) (fun b o z _ _ => sm _ _ z) nr rfl
    · have e : Pn12.step m .fresh = (m, ⟨(m.task.price l' : Nat), l'⟩) := by
        show (m, match m.task.first m.now with | none => Pn12.ok (-6) | some l => ⟨(m.task.price l : Nat), l⟩) = _
        rw [hf]
      rw [e] at q
      refine ⟨_, rfl, rfl, _, rfl, ifalse rfl ?_⟩
      refine ⟨_, rfl, p, _, 0, _, rfl, rfl, .of hp, atI_nat (j := 0) rfl, (by show 1 ≤ sizeLine; decide), fun r nr => ?_⟩
      have k1 := same_new (o := .lst [V.int (m.task.price l' : Nat)]) nr
      refine ⟨_, rfl, p, _, 1, _, rfl, rfl, .of (k1 _ _ hp), atI_nat (j := 1) rfl, p2, _, rfl, .inr (.of (k1 _ _ hp2)), fun u nu => ?_⟩
      have k2 := same_new (o := .lst (nums l')) nu
      refine ⟨r, u, _, _, rfl, rfl, k2 _ _ upd_same, upd_same, ?_, fun z nz => ?_⟩
      · rw [nums_len]
        show 1 + l'.length ≤ 2 ^ 24
        omega
      · have s3 := sm.trans (k1.trans k2)
        refine q.new (gv.house.same s3) (.inl rfl) (fun b o z _ _ => s3 _ _ z) nz ?_
        unfold Pn12Neutral.out
        simp [nums]
end
end Md

/-! ways_on. -/
namespace Md
open PySem PySem.Spec PyProof.Rows L2
theorem take_more {α : Type} {l : List α} {i : Nat} {k : α} (h : l[i]? = some k) : l.take (i + 1) = l.take i ++ [k] := by
  rw [List.take_add_one, h]
  rfl
theorem onD_more (t : Pn.Task) (dd k : Nat) {D : List (Nat × Pn12.Way)} {i : Nat} {p : Nat × Pn12.Way} (h : D[i]? = some p) : onD t dd k (D.take (i + 1)) = onD t dd k (D.take i) ++ (if (t.act k).may p.1 = true then [((t.act k).then_ p.1, ext p.2 dd (t.act k).cost [k])] else []) := by
  rw [take_more h]
  unfold onD
  rw [List.filterMap_append]
  refine congrArg _ ?_
  by_cases c : (t.act k).may p.1 = true
  · rw [if_pos c, List.filterMap_cons, if_pos c]
    rfl
  · rw [if_neg c, List.filterMap_cons, if_neg c]
    rfl
theorem unlock_same {H H' : Hp} {d : Addr} {u : HO} {od : Obj} (hd : H d = some u) (sm : Same (upd H d (.frz od u)) H') : Same H (upd H' d u) := fun b o e => by
  by_cases hb : b = d
  · subst hb
    rw [hd] at e
    cases e
    exact upd_same
  · rw [upd_ne hb]
    exact sm _ _ (by rw [upd_ne hb]; exact e)
theorem en_get {H : Hp} {kvs : List (Key × V)} {D : List (Nat × Pn12.Way)} {i : Nat} {x y : V} (he : Each (EnAt H) kvs D) (e0 : (kvs[i]?.map fun kv => kV kv.1) = some x) (e1 : (kvs[i]?.map Prod.snd) = some y) : ∃ p, D[i]? = some p ∧ x = .int (p.1 : Nat) ∧ WyAt H y p.2 := by
  cases e : kvs[i]? with
  | none =>
    rw [e] at e0
    cases e0
  | some kv =>
    rw [e] at e0 e1
    cases e0
    cases e1
    obtain ⟨p, hp, h1, h2⟩ := he.get e
    refine ⟨p, hp, ?_, h2⟩
    show kV kv.1 = _
    rw [h1]
    rfl
section
variable {P : Program} {w : World} {K : PySem.W.Frag} {mg : Str → Option Value} {base : Heap} {A : Ad}
def spWaysOn (K : PySem.W.Frag) (A : Ad) : Sp := fun vs H Q _ => ∃ (la d : Addr) (xs : List Addr) (t : Pn.Task) (k : Nat) (kvs : List (Key × V)) (D : List (Nat × Pn12.Way)), vs = [.ref la, .int k, .ref d] ∧ SqL K H la (xs.map V.ref) ∧ Acts A H xs t.acts ∧ k < t.acts.length ∧ H d = some (.dK kvs) ∧ Each (EnAt H) kvs D ∧ D.length ≤ 1000 ∧ (∀ p ∈ D, p.2.l.length ≤ 5000000) ∧
  ∀ (H' : Hp) (p : Addr) (ps : List V), Same H H' → H p = none → H' p = some (.lst ps) → (∀ dd, Each (PrAt H') ps (onD t dd k D)) → Q (.ref p) H'
theorem ok_ways_on (T : Txt K mg A) : C8.Cal P w K mg base 2 "ways_on" (spWaysOn K A) [] := by
  have c_Act_may_be_done : C8.Met P w K mg base 1 A.a_Act "may_be_done" (spMay A) [] := ok_Act_may T
  have c_Act_state_behind : C8.Met P w K mg base 1 A.a_Act "state_behind" (spBehind A) [] := ok_Act_behind T
  obtain ⟨fd, F, B, _⟩ := T.fn_ways_on
  refine ⟨_, fd, _, [], F.ok sc_ways_on (fun vs H Q E h => ?_) (fun cdv A' outer s H vs Q E hr h => ?_), T.g_ways_on, T.kp_ways_on, B, .nil⟩
  · obtain ⟨la, d, xs, t, k, kvs, D, rfl, _⟩ := h
    rfl
  · obtain ⟨la, d, xs, t, k, kvs, D, rfl, hla, ha, hk, hd, he, hDl, hDw, q⟩ := h
    refine ⟨_, (pss_cons (ps_set (i := 3) sc_ways_on.nd rfl (Or.inr rfl) (pe_ix ix_list (pv 0) (pv 1) (fun _ _ => rfl)))
      (pss_one (ps_ret (pe_lock (pe_lc (own := [("state", 4), ("way", 5)]) (g := gTup K 2 (gCons (gName 4) (gCons (gName 5) gNil))) (tt := tB (tMeth A.a_Act "may_be_done" (spMay A) [] E0 (tVar 3) (tCons (tVar 4) tNil))) (te := tTup (tCons (tMeth A.a_Act "state_behind" (spBehind A) [] E0 (tVar 3) (tCons (tVar 4) tNil)) (tCons (tTup (tCons (tOp (rI0 fun i j => .int (i + j)) (tOp (rIxT K) (tVar 5) (tC (.int 0))) (tFld K (tVar 3) "cost")) (tCons (tOp (rI0 fun i j => .int (i + j)) (tOp (rIxT K) (tVar 5) (tC (.int 1))) (tC (.int 1))) (tCons (tOp (rCatS K) (tOp (rIxT K) (tVar 5) (tC (.int 2))) (tTup (tCons (tVar 1) tNil))) tNil)))) tNil))) (by rfl) sc_ways_on.nd (pi_items (pv 2)) (blkOk_by (own := [("state", 4), ("way", 5)]) (N := n_ways_on) (sc := defScope s_ways_on) (by decide +kernel)) (fun _ _ _ _ _ => (pg_tup rfl (pgs_cons (pg_name (i := 4) sc_ways_on.nd rfl (Or.inl rfl)) (pgs_cons (pg_name (i := 5) sc_ways_on.nd rfl (Or.inl rfl)) pgs_nil)))) (fun _ _ _ _ _ => pts_one (pt_val (C8.pe_mt c_Act_may_be_done hr (by decide) (pv 3) (pa_cons (pv 4) pa_nil)))) (fun _ _ _ _ _ => by exact (pe_tup (pa_cons (C8.pe_mt c_Act_state_behind hr (by decide) (pv 3) (pa_cons (pv 4) pa_nil)) (pa_cons (pe_tup (pa_cons (pe_op op_add (pe_ix ix_tup (pv 5) pe_int (fun _ _ => rfl)) (pe_fld (pv 3) rfl)) (pa_cons (pe_op op_add (pe_ix ix_tup (pv 5) pe_int (fun _ _ => rfl)) pe_int) (pa_cons (pe_op op_catS (pe_ix ix_tup (pv 5) pe_int (fun _ _ => rfl)) (pe_tup (pa_cons (pv 1) pa_nil))) pa_nil)))) pa_nil))))))))), ?_⟩
    have hkx : k < xs.length := by rw [ha.len]; exact hk
    have hx1 : xs[k]? = some xs[k] := List.getElem?_eq_getElem hkx
    generalize xs[k] = b at hx1
    have hrx : (xs.map V.ref)[k]? = some (V.ref b) := by rw [List.getElem?_map, hx1]; rfl
    obtain ⟨dx, hb⟩ := ha.at_ k b (t.act k) hx1 (act_get hk)
    refine ⟨_, rfl, _, rfl, la, _, _, _, rfl, rfl, hla, atI_nat hrx, ?_⟩
    refine ⟨d, _, hd, trivial, fun od => ?_⟩
    have hb0 : (upd H d (.frz od (.dK kvs))) b = some (.ins A.a_Act dx (aF (t.act k))) := by rw [upd_ne (ne_of hb hd (by intro z; cases z))]; exact hb
    have he0 := he.imp fun _ _ z => EnAt.keep (TupK.at (o := .frz od (.dK kvs)) hd (fun xs z => by cases z)) z
    refine ⟨_, rfl, d, od, kvs, rfl, upd_same, fun L hL => lc_it (walk_items (d := d) (o := od) (kvs := kvs)) (fun i H' => Same (upd H d (.frz od (.dK kvs))) H' ∧ ∃ ys, H' L = some (.lst ys) ∧ ∀ dd, Each (PrAt H') ys (onD t dd k (D.take i))) ?_ ?_ ?_ ?_⟩
    · exact ⟨same_new hL, [], upd_same, fun _ => Each.nil⟩
    · rintro i H' _ ⟨sm, _⟩
      exact sm _ _ upd_same
    · rintro i v H1 H2 hi ⟨sm, ys, hy, hE⟩ ⟨b0, v0, v1, rfl, nb0, rfl, e0, e1⟩
      dsimp only at e0 e1
      obtain ⟨p, hp, rfl, hw⟩ := en_get he0 e0 e1
      have s2 := sm.trans (same_new (o := .tup [.int (p.1 : Nat), v1]) nb0)
      have hy2 := same_new (o := .tup [.int (p.1 : Nat), v1]) nb0 _ _ hy
      have hE2 := fun dd => (hE dd).imp fun _ _ z => PrAt.keep (TupK.new (o := .tup [.int (p.1 : Nat), v1]) nb0) z
      have hT : (upd H1 b0 (.tup [.int (p.1 : Nat), v1])) b0 = some (.tup [.int (p.1 : Nat), v1]) := upd_same
      generalize upd H1 b0 (.tup [.int (p.1 : Nat), v1]) = H2 at s2 hy2 hE2 hT
      have hw2 := hw.keep (TupK.same s2)
      obtain ⟨wt, w2, rfl, hw1, hw2⟩ := hw2
      refine ⟨b0, _, rfl, .of hT, rfl, _, _, rfl, _, _, rfl, rfl, rfl, ?_⟩
      refine ⟨_, rfl, b, dx, _, rfl, s2 _ _ hb0, aF_no _ (by decide +kernel), _, rfl, b, t.act k, p.1, rfl, ⟨dx, s2 _ _ hb0⟩, _, rfl, ?_⟩
      have hpl : p.2.l.length ≤ 5000000 := hDw p (List.mem_of_getElem? hp)
      have hil : i < D.length := (List.getElem?_eq_some_iff.mp hp).1
      refine iboth (fun c1 => ?_) (fun c1 => ?_)
      · refine ⟨_, rfl, b, dx, _, rfl, s2 _ _ hb0, aF_no _ (by decide +kernel), _, rfl, b, t.act k, p.1, rfl, ⟨dx, s2 _ _ hb0⟩, ?_⟩
        refine ⟨_, rfl, wt, _, 0, _, rfl, rfl, .of hw1, atI_nat (j := 0) rfl, _, rfl, b, _, dx, _, _, rfl, s2 _ _ hb0, T.cl_Act, T.na_Act_cost, aF_cost _, _, _, rfl, rfl, ?_⟩
        refine ⟨_, rfl, wt, _, 1, _, rfl, rfl, .of hw1, atI_nat (j := 1) rfl, _, _, rfl, rfl, ?_⟩
        refine ⟨_, rfl, wt, _, 2, _, rfl, rfl, .of hw1, atI_nat (j := 2) rfl, _, rfl, (by show 1 ≤ sizeLine; decide), fun u nu => ?_⟩
        refine ⟨w2, u, _, _, rfl, rfl, .of (same_new nu _ _ hw2), upd_same, ?_, fun r H3 s3 hr' => ?_⟩
        · rw [nums_len]
          show p.2.l.length + 1 ≤ 2 ^ 24
          omega
        have s3' := (same_new (o := .tup [.int (k : Int)]) nu).trans s3
        refine ⟨(by show 3 ≤ sizeLine; decide), fun r2 nr2 => ⟨(by show 2 ≤ sizeLine; decide), fun r3 nr3 => ?_⟩⟩
        have k2 := same_new (o := .tup [V.int ((p.2.c : Int) + ((t.act k).cost : Int)), V.int ((p.2.l.length : Int) + 1), V.ref r]) nr2
        have k3 := same_new (o := .tup [V.int ((t.act k).then_ p.1 : Nat), V.ref r2]) nr3
        have s5 := s3'.trans (k2.trans k3)
        have hr2 := k3 _ _ (upd_same (H := H3) (a := r2) (o := .tup [V.int ((p.2.c : Int) + ((t.act k).cost : Int)), V.int ((p.2.l.length : Int) + 1), V.ref r]))
        have hr3 := upd_same (H := upd H3 r2 (.tup [V.int ((p.2.c : Int) + ((t.act k).cost : Int)), V.int ((p.2.l.length : Int) + 1), V.ref r])) (a := r3) (o := .tup [V.int ((t.act k).then_ p.1 : Nat), V.ref r2])
        have hr1 := k3 _ _ (k2 _ _ hr')
        generalize upd (upd H3 r2 (.tup [V.int ((p.2.c : Int) + ((t.act k).cost : Int)), V.int ((p.2.l.length : Int) + 1), V.ref r])) r3 (.tup [V.int ((t.act k).then_ p.1 : Nat), V.ref r2]) = H5 at s5 hr1 hr2 hr3
        have kD : TupK H5 (upd H5 L (.lst (ys ++ [V.ref r3]))) := TupK.at (s5 _ _ hy2) (fun xs z => by cases z)
        refine ⟨ys, s5 _ _ hy2, ?_, fun b' o e => ?_, ys ++ [V.ref r3], upd_same, fun dd => ?_⟩
        · rw [(hE 0).len]
          have := onD_len t 0 k (D.take i)
          rw [List.length_take] at this
          show (onD t 0 k (D.take i)).length < 2 ^ 24
          omega
        · rw [upd_ne (ne_of_none e hL)]
          exact s5 _ _ (s2 _ _ e)
        · rw [onD_more t dd k hp, if_pos c1]
          refine Each.snoc ((hE2 dd).imp fun _ _ z => (z.keep (TupK.same s5)).keep kD) (PrAt.keep kD ⟨r3, _, rfl, hr3, r2, r, rfl, ?_, ?_⟩)
          · refine hr2.trans ?_
            show some (HO.tup [V.int ((p.2.c : Int) + ((t.act k).cost : Int)), V.int ((p.2.l.length : Int) + 1), V.ref r]) = some (HO.tup [V.int ((p.2.c + (t.act k).cost : Nat) : Int), V.int ((p.2.l ++ [k]).length : Int), V.ref r])
            rw [List.length_append]
            rfl
          · show _ = some (HO.tup (nums (p.2.l ++ [k])))
            rw [nums_app]
            exact hr1
      · refine ⟨s2, ys, hy2, fun dd => ?_⟩
        rw [onD_more t dd k hp, c1, if_neg Bool.false_ne_true, List.append_nil]
        exact hE2 dd
    · rintro H' ⟨sm, ys, hy, hE⟩
      have hl := he.len
      rw [hl, List.take_length] at hE
      have hfz := sm d _ upd_same
      have kD : TupK H' (upd H' d (.dK kvs)) := TupK.at hfz (fun xs z => by cases z)
      have hLd : L ≠ d := fun z => by
        rw [z, upd_same] at hL
        cases hL
      refine ⟨hfz, q _ L ys (unlock_same hd sm) ?_ ?_ fun dd => (hE dd).imp fun _ _ z => z.keep kD⟩
      · rw [upd_ne hLd] at hL
        exact hL
      · rw [upd_ne hLd]
        exact hy
end
end Md

/-! best_ways. -/
namespace Md
open PySem PySem.Spec PyProof.Rows L2
open PySem.W (Datum DatumOrd dataLt)
def ky (s : Nat) : Key := Sum.inl ((s : Nat) : Int)
theorem ky_inj {a b : Nat} (h : ky a = ky b) : a = b := by
  unfold ky at h
  have h : (a : Int) = (b : Int) := by injection h
  omega
theorem ky_mem {l : List Nat} {s : Nat} : ky s ∈ l.map ky ↔ s ∈ l := by
  constructor
  · intro h
    obtain ⟨a, ha, e⟩ := List.mem_map.mp h
    rw [← ky_inj e]
    exact ha
  · exact fun h => List.mem_map_of_mem h
theorem val_none {kvs : List (Key × V)} {k : Key} (h : k ∉ kvs.map (·.1)) : valV kvs k = none := by
  cases e : valV kvs k with
  | none => rfl
  | some v => exact (h (valV_in e)).elim
theorem en_keys {H : Hp} {kvs : List (Key × V)} {D : List (Nat × Pn12.Way)} (he : Each (EnAt H) kvs D) : kvs.map (·.1) = (D.map (·.1)).map ky := by
  refine List.ext_getElem? fun i => ?_
  rw [List.getElem?_map, List.getElem?_map, List.getElem?_map]
  cases e : kvs[i]? with
  | none =>
    have hl := he.len
    have : kvs.length ≤ i := List.getElem?_eq_none_iff.mp e
    rw [List.getElem?_eq_none (by omega)]
    rfl
  | some kv =>
    obtain ⟨p, hp, h1, _⟩ := he.get e
    rw [hp]
    show some kv.1 = some (ky p.1)
    rw [h1]
    rfl
theorem en_val {H : Hp} {kvs : List (Key × V)} {D : List (Nat × Pn12.Way)} {s : Nat} {y : V} (he : Each (EnAt H) kvs D) (h : valV kvs (ky s) = some y) : ∃ o, (s, o) ∈ D ∧ WyAt H y o := by
  unfold valV at h
  cases e : kvs.find? fun kv => decide (kv.1 = ky s) with
  | none =>
    rw [e] at h
    cases h
  | some kv =>
    rw [e] at h
    cases h
    have hk : kv.1 = ky s := of_decide_eq_true (List.find?_some (p := fun kv : Key × V => decide (kv.1 = ky s)) e)
    obtain ⟨i, hi, e2⟩ := List.getElem_of_mem (List.mem_of_find?_eq_some e)
    have e3 : kvs[i]? = some kv := by rw [List.getElem?_eq_getElem hi, e2]
    obtain ⟨p, hp, h1, h2⟩ := he.get e3
    have : p.1 = s := ky_inj (h1.symm.trans hk)
    subst this
    exact ⟨p.2, List.mem_of_getElem? hp, h2⟩
theorem en_put {H : Hp} {kvs : List (Key × V)} {D : List (Nat × Pn12.Way)} {s : Nat} {y v : V} {w : Pn12.Way} (he : Each (EnAt H) kvs D) (h : valV kvs (ky s) = some y) (hw : WyAt H v w) : Each (EnAt H) (putK kvs (ky s) v) (putD D s w) := by
  have e : putK kvs (ky s) v = kvs.map fun kv => if kv.1 = ky s then (kv.1, v) else kv := by
    unfold putK
    rw [if_pos]
    rw [valV_any, h]
    rfl
  rw [e]
  unfold putD
  refine ⟨by rw [List.length_map, List.length_map]; exact he.len, fun i a b e1 e2 => ?_⟩
  rw [List.getElem?_map] at e1 e2
  cases e3 : kvs[i]? with
  | none =>
    rw [e3] at e1
    cases e1
  | some kv =>
    obtain ⟨p, hp, h1, h2⟩ := he.get e3
    rw [e3] at e1
    rw [hp] at e2
    cases e1
    cases e2
    dsimp only
    by_cases hs : p.1 = s
    · rw [if_pos hs, if_pos (by rw [h1, hs]; rfl)]
      exact ⟨h1, hw⟩
    · rw [if_neg hs, if_neg (fun z => hs (ky_inj (h1.symm.trans z)))]
      exact ⟨h1, h2⟩
theorem wy_lt {a b : Pn12.Way} (e : a.d = b.d) : dataLt (Datum.toD (w3 a)) (Datum.toD (w3 b)) = a.better b := by
  rw [DatumOrd.lt_eq, w3_lt e]
theorem sub_len {α : Type} [DecidableEq α] : ∀ {D Y : List α}, D.Nodup → (∀ q ∈ D, q ∈ Y) → D.length ≤ Y.length
  | [], _, _, _ => Nat.zero_le _
  | a :: D, Y, h, k => by
    have ha : a ∈ Y := k a (List.mem_cons_self ..)
    obtain ⟨h1, h2⟩ := List.nodup_cons.mp h
    have := sub_len (Y := Y.erase a) h2 fun q hq => (List.mem_erase_of_ne (fun z => h1 (by rw [← z]; exact hq))).mpr (k q (List.mem_cons_of_mem _ hq))
    rw [List.length_erase_of_mem ha] at this
    have hp := List.length_pos_of_mem ha
    rw [List.length_cons]
    omega
theorem BW.len {ps D : List (Nat × Pn12.Way)} {S : List Nat} (B : BW ps S D) : D.length ≤ ps.length :=
  sub_len ((List.pairwise_map.mp B.nodup).imp fun h z => h (by rw [z])) fun q hq => (B.sound q hq).1
section
variable {P : Program} {w : World} {K : PySem.W.Frag} {mg : Str → Option Value} {base : Heap} {A : Ad}
def spBest (K : PySem.W.Frag) : Sp := fun vs H Q _ => ∃ (lp dp : Addr) (ps : List V) (X : List (Nat × Pn12.Way)) (kp : List (Key × V)) (S : List Nat) (f : Nat), vs = [.ref lp, .ref dp] ∧ SqL K H lp ps ∧ Each (PrAt H) ps X ∧ H dp = some (.dK kp) ∧ kp.map (·.1) = S.map ky ∧ (∀ p ∈ X, p.2.d = f) ∧ X.length ≤ 100000 ∧ S.length ≤ 100000 ∧
  ∀ (H' : Hp) (d : Addr) (kvs kp' : List (Key × V)) (D : List (Nat × Pn12.Way)), H d = none → H' d = some (.dK kvs) → Each (EnAt H') kvs D → BW X S D → H' dp = some (.dK kp') → kp'.map (·.1) = (S ++ D.map (·.1)).map ky → (∀ b o, H b = some o → b ≠ dp → H' b = some o) → Q (.ref d) H'
theorem ok_best_ways (T : Txt K mg A) : C8.Cal P w K mg base 1 "best_ways" (spBest K) [] := by
  obtain ⟨fd, F, B, _⟩ := T.fn_best_ways
  refine ⟨_, fd, _, [], F.ok sc_best_ways (fun vs H Q E h => ?_) (fun cdv A' outer s H vs Q E hr h => ?_), T.g_best_ways, T.kp_best_ways, B, .nil⟩
  · obtain ⟨lp, dp, ps, X, kp, S, f, rfl, _⟩ := h
    rfl
  · obtain ⟨lp, dp, ps, X, kp, S, f, rfl, hlp, hE, hdp, hS, hf, hXl, hSl, q⟩ := h
    refine ⟨_, (pss_cons (ps_set (i := 2) sc_best_ways.nd rfl (Or.inl rfl) pe_dnewK)
      (pss_cons (ps_for PassesOwn.never rfl (pi_list (pv 0)) (pg_tup rfl (pgs_cons (pg_name (i := 3) sc_best_ways.nd rfl (Or.inl rfl)) (pgs_cons (pg_name (i := 4) sc_best_ways.nd rfl (Or.inl rfl)) pgs_nil)))
      (pss_one (ps_if (PW.pt (pw_and (pt_cmp (pc_dnotin (hu_of hr) (pv 3) (pv 1))) (pw_and1 (PW.pt (pw_or (pt_cmp (pc_dnotin (hu_of hr) (pv 3) (pv 2))) (pw_or1 (pt_cmpR (op_ltD hr.units) (pv 4) (pe_dget (hu_of hr) (pv 2) (pv 3) (fun _ _ => rfl)) (nomark _))))))))
        (pss_one (ps_dput (hu_of hr) (pv 2) (pv 3) (pv 4) rfl))
        pss_nil)))
      (pss_cons (ps_lock (ps_for PassesOwn.never rfl (pi_keys (pv 2)) (pg_name (i := 3) sc_best_ways.nd rfl (Or.inl rfl))
      (pss_one (ps_dput (hu_of hr) (pv 1) (pv 3) pe_bl rfl))))
      (pss_one (ps_ret (pv 2)))))), ?_⟩
    intro d nd
    have hne : d ≠ dp := fun z => by rw [z, hdp] at nd; cases nd
    refine ⟨_, rfl, lp, rfl, ⟨_, same_new nd |>.seq hlp⟩, for_it (walk_list (K := K) (a := lp) (xs := ps)) (fun i σ H' => ∃ (v3 v4 : Option V) (kvs : List (Key × V)) (D : List (Nat × Pn12.Way)), σ = [some (.ref lp), some (.ref dp), some (.ref d), v3, v4] ∧ Same H H' ∧ H' d = some (.dK kvs) ∧ Each (EnAt H') kvs D ∧ BW (X.take i) S D) ?_ ?_ ?_ ?_⟩
    · exact ⟨none, none, [], [], rfl, same_new nd, upd_same, Each.nil, bw_nil S⟩
    · rintro i σ H' _ ⟨v3, v4, kvs, D, rfl, sm, _⟩
      exact sm.seq hlp
    · rintro i x σ H' H2 hi ⟨v3, v4, kvs, D, rfl, sm, hd, he, bw⟩ ⟨rfl, hx⟩
      obtain ⟨p, hp, tt, v, rfl, htt, hwy⟩ := hE.get hx
      have hwy2 := hwy.keep (TupK.same sm)
      have hpf := hf p (List.mem_of_getElem? hp)
      have hDl : D.length ≤ 100000 := by
        have := bw.len
        rw [List.length_take] at this
        omega
      have hkl := he.len
      have hlen : kvs.length < sizeLine := by
        show kvs.length < 2 ^ 24
        omega
      refine ⟨tt, _, rfl, .of (sm _ _ htt), rfl, _, _, rfl, _, _, rfl, rfl, ?_⟩
      refine ⟨_, rfl, _, rfl, dp, _, rfl, DGet.k (k := ky p.1) (sm _ _ hdp), _, rfl, ?_⟩
      rw [take_more hp]
      cases hv : valV kp (ky p.1) with
      | some y =>
        have hin : p.1 ∈ S := by
          have := valV_in hv
          rw [hS] at this
          exact ky_mem.mp this
        refine ifalse rfl (ifalse rfl ?_)
        exact ⟨_, _, kvs, D, rfl, sm, hd, he, bw.skip (.inl hin)⟩
      | none =>
        have hnin : p.1 ∉ S := fun z => valV_not hv (by rw [hS]; exact ky_mem.mpr z)
        refine itrue rfl ?_
        refine ⟨_, rfl, _, rfl, d, _, rfl, DGet.k (k := ky p.1) hd, _, rfl, ?_⟩
        cases hv2 : valV kvs (ky p.1) with
        | none =>
          have hnk : p.1 ∉ D.map (·.1) := fun z => valV_not hv2 (by rw [en_keys he]; exact ky_mem.mpr z)
          refine itrue rfl (itrue rfl ?_)
          refine ⟨_, rfl, _, rfl, _, rfl, d, _, rfl, DPut.k (k := ky p.1) hd hlen, ?_⟩
          rw [putK_new _ hv2]
          have kt : TupK H2 (upd H2 d (.dK (kvs ++ [(ky p.1, v)]))) := TupK.at hd (fun xs z => by cases z)
          refine ⟨_, _, kvs ++ [(ky p.1, v)], D ++ [p], rfl, fun b o e => ?_, upd_same, (he.imp fun _ _ z => z.keep kt).snoc ⟨rfl, hwy2.keep kt⟩, bw.new hnin hnk⟩
          rw [upd_ne (ne_of_none e nd)]
          exact sm _ _ e
        | some y =>
          obtain ⟨o, ho, hy⟩ := en_val he hv2
          have hof : o.d = f := hf _ (List.mem_of_mem_take (bw.sound _ ho).1)
          refine ifalse rfl ?_
          refine ⟨_, rfl, _, rfl, _, rfl, d, y, rfl, (by have := DGet.k (k := ky p.1) hd; rw [hv2] at this; exact this), _, _, hwy2.dp, hy.dp, DatumOrd.alike (w3 p.2) (w3 o), DatumOrd.notNone (w3 p.2), Nat.le_trans (Datum.depth_le (w3 p.2)) (by decide), _, rfl, ?_⟩
          refine ib (c' := p.2.better o) (wy_lt (by rw [hpf, hof])) (fun c1 => ?_) (fun c1 => ?_)
          · refine ⟨_, rfl, _, rfl, _, rfl, d, _, rfl, DPut.k (k := ky p.1) hd hlen, ?_⟩
            have kt : TupK H2 (upd H2 d (.dK (putK kvs (ky p.1) v))) := TupK.at hd (fun xs z => by cases z)
            refine ⟨_, _, putK kvs (ky p.1) v, putD D p.1 p.2, rfl, fun b o e => ?_, upd_same, (en_put he hv2 hwy2).imp fun _ _ z => z.keep kt, bw.better hnin ho c1⟩
            rw [upd_ne (ne_of_none e nd)]
            exact sm _ _ e
          · exact ⟨_, _, kvs, D, rfl, sm, hd, he, bw.skip (.inr ⟨o, ho, c1⟩)⟩
    · rintro σ H1 ⟨v3, v4, kvs, D, rfl, sm, hd, he, bw⟩
      rw [hE.len, List.take_length] at bw
      have hkl := he.len
      refine ⟨d, _, hd, trivial, fun od => ?_⟩
      have hdp0 : (upd H1 d (.frz od (.dK kvs))) dp = some (.dK kp) := by rw [upd_ne (Ne.symm hne)]; exact sm _ _ hdp
      refine ⟨_, rfl, d, od, rfl, .inl ⟨kvs, upd_same, for_it (walk_keys (d := d) (o := od) (kvs := kvs)) (fun i σ H' => ∃ (v3' : Option V), σ = [some (.ref lp), some (.ref dp), some (.ref d), v3', v4] ∧ (∀ b o, (upd H1 d (.frz od (.dK kvs))) b = some o → b ≠ dp → H' b = some o) ∧ ∃ kp', H' dp = some (.dK kp') ∧ kp'.map (·.1) = (S ++ (D.take i).map (·.1)).map ky) ?_ ?_ ?_ ?_⟩⟩
      · refine ⟨v3, rfl, fun b o e _ => e, kp, hdp0, ?_⟩
        rw [List.take_zero, List.map_nil, List.append_nil]
        exact hS
      · rintro i σ H' _ ⟨v3', rfl, kp1, _⟩
        exact kp1 d _ upd_same hne
      · rintro i x σ H' H2 hi ⟨v3', rfl, hkeep, kp', hk', hkk⟩ ⟨rfl, k0, v0, e0, rfl⟩
        obtain ⟨p, hp, h1, _⟩ := he.get e0
        have h1 : k0 = ky p.1 := h1
        subst h1
        have hpD := List.mem_of_getElem? hp
        have hil : i < D.length := (List.getElem?_eq_some_iff.mp hp).1
        have hnew : ky p.1 ∉ kp'.map (·.1) := by
          rw [hkk]
          refine fun z => ?_
          rcases List.mem_append.mp (ky_mem.mp z) with z | z
          · exact (bw.sound p hpD).2.1 z
          · have hnd := bw.nodup
            have e1 : D.map (·.1) = (D.take i).map (·.1) ++ p.1 :: (D.drop (i + 1)).map (·.1) := by
              conv => lhs; rw [← List.take_append_drop i D, List.drop_eq_getElem_cons hil]
              rw [List.map_append, List.map_cons]
              have : D[i] = p := by
                rw [List.getElem?_eq_getElem hil] at hp
                exact Option.some.inj hp
              rw [this]
            rw [e1] at hnd
            exact (List.nodup_append.mp hnd).2.2 _ z _ (List.mem_cons_self ..) rfl
        have hkpl : kp'.length < sizeLine := by
          have := congrArg List.length hkk
          rw [List.length_map, List.length_map, List.length_append, List.length_map, List.length_take] at this
          have hDl := bw.len
          show kp'.length < 2 ^ 24
          omega
        refine ⟨_, rfl, _, rfl, dp, _, rfl, DPut.k (k := ky p.1) hk' hkpl, ?_⟩
        rw [putK_new _ (val_none hnew)]
        refine ⟨_, rfl, fun b o e hb => ?_, _, upd_same, ?_⟩
        · rw [upd_ne hb]
          exact hkeep b o e hb
        · rw [take_more hp, List.map_append, hkk, List.map_append (l₁ := D.take i), ← List.append_assoc, List.map_append (l₁ := S ++ _)]
          rfl
      · rintro σ H' ⟨v3', rfl, hkeep, kp', hk', hkk⟩
        rw [hkl, List.take_length] at hkk
        have hfz := hkeep d _ upd_same hne
        refine ⟨hfz, _, rfl, q _ d kvs kp' D nd upd_same ?_ bw ?_ hkk fun b o e hb => ?_⟩
        · have t1 : TupK H1 (upd H1 d (.frz od (.dK kvs))) := TupK.at hd (fun xs z => by cases z)
          have t2 : TupK (upd H1 d (.frz od (.dK kvs))) H' := fun b xs e => hkeep b _ e (ne_of e hdp0 (by intro z; cases z))
          have t3 : TupK H' (upd H' d (.dK kvs)) := TupK.at hfz (fun xs z => by cases z)
          exact he.imp fun _ _ z => z.keep (t1.trans (t2.trans t3))
        · rw [upd_ne (Ne.symm hne)]
          exact hk'
        · have hbd : b ≠ d := ne_of_none e nd
          rw [upd_ne hbd]
          exact hkeep b o (by rw [upd_ne hbd]; exact sm _ _ e) hb
end
end Md

/-! layer_of. -/
namespace Md
open PySem PySem.Spec PyProof.Rows L2
def LstAt (H : Hp) (a : Addr) (X : List (Nat × Pn12.Way)) : Prop := ∃ ps, H a = some (.lst ps) ∧ Each (PrAt H) ps X
def DicAt (H : Hp) (a : Addr) (D : List (Nat × Pn12.Way)) : Prop := ∃ kvs, H a = some (.dK kvs) ∧ Each (EnAt H) kvs D
def PasAt (H : Hp) (a : Addr) (S : List Nat) : Prop := ∃ kp, H a = some (.dK kp) ∧ kp.map (·.1) = S.map ky
theorem LstAt.keep {H H' : Hp} {a : Addr} {X : List (Nat × Pn12.Way)} (k : TupK H H') (ha : ∀ o, H a = some o → H' a = some o) (h : LstAt H a X) : LstAt H' a X := by
  obtain ⟨ps, h1, h2⟩ := h
  exact ⟨ps, ha _ h1, h2.imp fun _ _ z => z.keep k⟩
theorem DicAt.keep {H H' : Hp} {a : Addr} {X : List (Nat × Pn12.Way)} (k : TupK H H') (ha : ∀ o, H a = some o → H' a = some o) (h : DicAt H a X) : DicAt H' a X := by
  obtain ⟨ps, h1, h2⟩ := h
  exact ⟨ps, ha _ h1, h2.imp fun _ _ z => z.keep k⟩
theorem PasAt.keep {H H' : Hp} {a : Addr} {S : List Nat} (ha : ∀ o, H a = some o → H' a = some o) (h : PasAt H a S) : PasAt H' a S := by
  obtain ⟨ps, h1, h2⟩ := h
  exact ⟨ps, ha _ h1, h2⟩
theorem nodup_ix {α : Type} {l : List α} (h : l.Nodup) {i j : Nat} {a : α} (h1 : l[i]? = some a) (h2 : l[j]? = some a) : i = j := by
  obtain ⟨a1, a2⟩ := List.getElem?_eq_some_iff.mp h1
  obtain ⟨b1, b2⟩ := List.getElem?_eq_some_iff.mp h2
  have hp := List.pairwise_iff_getElem.mp h
  rcases Nat.lt_trichotomy i j with k | k | k
  · exact (hp i j a1 b1 k (a2.trans b2.symm)).elim
  · exact k
  · exact (hp j i b1 a1 k (b2.trans a2.symm)).elim
/-- all but these stays -/
def But (ps : List Addr) (H H' : Hp) : Prop := ∀ b o, H b = some o → b ∉ ps → H' b = some o
theorem But.same {ps : List Addr} {H H' H'' : Hp} (h : But ps H H') (s : Same H' H'') : But ps H H'' := fun b o e hb => s _ _ (h b o e hb)
theorem But.free {ps : List Addr} {H H' : Hp} (h : But ps H H') {b : Addr} (n : H' b = none) : H b = none ∨ b ∈ ps := by
  by_cases hb : b ∈ ps
  · exact .inr hb
  · cases e : H b with
    | none => exact .inl rfl
    | some o =>
      rw [h b o e hb] at n
      cases n
section
variable {P : Program} {w : World} {K : PySem.W.Frag} {mg : Str → Option Value} {base : Heap} {A : Ad}
structure LayIn (A : Ad) (H : Hp) (la lr lf lp : Addr) (xs fs ps : List Addr) (t : Pn.Task) (rest : List Nat) (s0 f : Nat) : Prop where
  la : H la = some (.lst (xs.map V.ref))
  acts : Acts A H xs t.acts
  lr : H lr = some (.lst (nums rest))
  hrest : ∀ k ∈ rest, k < t.acts.length
  lf : H lf = some (.lst (fs.map V.ref))
  hlp : H lp = some (.lst (ps.map V.ref))
  fl : fs.length = rest.length + 1
  pl : ps.length = rest.length + 1
  nd : ps.Nodup
  wf : WF t
  hs0 : s0 < 2 ^ t.facts
  facts : t.facts ≤ 5
  far : f + rest.length ≤ 5000000
  found : ∀ (j : Nat) a, fs[j]? = some a → ∃ F, LstAt H a F ∧ FOk t rest s0 f j F ∧ F.length ≤ 1000
  passed : ∀ (j : Nat) a, ps[j]? = some a → ∃ S, PasAt H a S ∧ SOk t rest s0 f j S
theorem LayIn.out {H : Hp} {la lr lf lp : Addr} {xs fs ps : List Addr} {t : Pn.Task} {rest : List Nat} {s0 f : Nat} (L : LayIn A H la lr lf lp xs fs ps t rest s0 f) {b : Addr} {o : HO} (h : H b = some o) (hn : ∀ kp, o ≠ .dK kp) : b ∉ ps := fun hb => by
  obtain ⟨j, hj, e⟩ := List.getElem_of_mem hb
  obtain ⟨S, ⟨kp, h1, _⟩, _⟩ := L.passed j b (by rw [List.getElem?_eq_getElem hj, e])
  rw [h] at h1
  exact hn kp (Option.some.inj h1)
theorem LayIn.fresh {H : Hp} {la lr lf lp : Addr} {xs fs ps : List Addr} {t : Pn.Task} {rest : List Nat} {s0 f : Nat} (L : LayIn A H la lr lf lp xs fs ps t rest s0 f) {b : Addr} (h : H b = none) : b ∉ ps := fun hb => by
  obtain ⟨j, hj, e⟩ := List.getElem_of_mem hb
  obtain ⟨S, ⟨kp, h1, _⟩, _⟩ := L.passed j b (by rw [List.getElem?_eq_getElem hj, e])
  rw [h] at h1
  cases h1
theorem LayIn.tups {H H' : Hp} {la lr lf lp : Addr} {xs fs ps : List Addr} {t : Pn.Task} {rest : List Nat} {s0 f : Nat} (L : LayIn A H la lr lf lp xs fs ps t rest s0 f) (k : But ps H H') : TupK H H' := fun b ys e => k b _ e (L.out e (fun kp z => by cases z))
def spLayer (A : Ad) : Sp := fun vs H Q _ => ∃ (la lr lf lp : Addr) (xs fs ps : List Addr) (t : Pn.Task) (rest : List Nat) (s0 f : Nat), vs = [.ref la, .ref lr, .ref lf, .ref lp] ∧ LayIn A H la lr lf lp xs fs ps t rest s0 f ∧
  ∀ (H' : Hp) (l : Addr) (ds : List Addr), H l = none → H' l = some (.lst (ds.map V.ref)) → ds.length = rest.length + 1 → (∀ (j : Nat) a, ds[j]? = some a → H a = none ∧ ∃ D, DicAt H' a D ∧ LOk t rest s0 f j D) → (∀ (j : Nat) a, ps[j]? = some a → ∃ S, PasAt H' a S ∧ SOk t rest s0 (f + 1) j S) → But ps H H' → Q (.ref l) H'
/-- between two turns -/
structure LayTn (ps : List Addr) (t : Pn.Task) (rest : List Nat) (s0 f : Nat) (H : Hp) (ly : Addr) (i : Nat) (H' : Hp) (ds : List Addr) : Prop where
  but : But ps H H'
  ly : H' ly = some (.lst (ds.map V.ref))
  len : ds.length = i
  dics : ∀ (j : Nat) a, ds[j]? = some a → H a = none ∧ ∃ D, DicAt H' a D ∧ LOk t rest s0 f j D
  pas : ∀ (j : Nat) a, ps[j]? = some a → ∃ S, PasAt H' a S ∧ SOk t rest s0 (if j < i then f + 1 else f) j S
theorem LayTn.same {ps : List Addr} {t : Pn.Task} {rest : List Nat} {s0 f : Nat} {H H1 H2 : Hp} {ly : Addr} {i : Nat} {ds : List Addr} (L : LayTn ps t rest s0 f H ly i H1 ds) (s : Same H1 H2) : LayTn ps t rest s0 f H ly i H2 ds where
  but := L.but.same s
  ly := s _ _ L.ly
  len := L.len
  dics := fun j a e => by
    obtain ⟨h1, D, h2, h3⟩ := L.dics j a e
    exact ⟨h1, D, h2.keep (TupK.same s) (fun o z => s _ _ z), h3⟩
  pas := fun j a e => by
    obtain ⟨S, h2, h3⟩ := L.pas j a e
    exact ⟨S, h2.keep (fun o z => s _ _ z), h3⟩
theorem ok_layer_of (T : Txt K mg A) : C8.Cal P w K mg base 3 "layer_of" (spLayer A) [] := by
  have c_ways_on : C8.Cal P w K mg base 2 "ways_on" (spWaysOn K A) [] := ok_ways_on T
  have c_best_ways : C8.Cal P w K mg base 1 "best_ways" (spBest K) [] := ok_best_ways T
  obtain ⟨fd, F, B, _⟩ := T.fn_layer_of
  refine ⟨_, fd, _, [], F.ok sc_layer_of (fun vs H Q E h => ?_) (fun cdv A' outer s H vs Q E hr h => ?_), T.g_layer_of, T.kp_layer_of, B, .nil⟩
  · obtain ⟨la, lr, lf, lp, xs, fs, ps, t, rest, s0, f, rfl, _⟩ := h
    rfl
  · obtain ⟨la, lr, lf, lp, xs, fs, ps, t, rest, s0, f, rfl, L, q⟩ := h
    refine ⟨_, (pss_cons (ps_set (i := 4) sc_layer_of.nd rfl (Or.inl rfl) (pe_lst pa_nil))
      (pss_cons (ps_for PassesOwn.never rfl (pi_enum (by rfl) T.n_enumerate (pa_cons (pv 2) pa_nil)) (pg_tup rfl (pgs_cons (pg_name (i := 5) sc_layer_of.nd rfl (Or.inl rfl)) (pgs_cons (pg_name (i := 6) sc_layer_of.nd rfl (Or.inl rfl)) pgs_nil)))
      (pss_cons (ps_set (i := 7) sc_layer_of.nd rfl (Or.inl rfl) (pe_lst pa_nil))
        (C8.pss_cut (ps_if (pt_cmpR op_gt (pv 5) pe_int (nomark _))
        (pss_one (ps_set (i := 7) sc_layer_of.nd rfl (Or.inl rfl) (C8.pe_c c_ways_on hr (by decide) (by rfl) (pa_cons (pv 0) (pa_cons (pe_ix ix_list (pv 1) (pe_op op_sub (pv 5) pe_int) (fun _ _ => rfl)) (pa_cons (pe_ix ix_list (pv 4) (pe_op op_sub (pv 5) pe_int) (fun _ _ => rfl)) pa_nil))))))
        pss_nil)
        (pss_one (ps_expr (pe_bm PySem.F.plainAttrs_list PySem.F.slot_list_append PySem.F.type_list_append mt_append (pv 4) (pa_cons (C8.pe_c c_best_ways hr (by decide) (by rfl) (pa_cons (pe_op op_cat (pv 6) (pv 7)) (pa_cons (pe_ix ix_list (pv 3) (pv 5) (fun _ _ => rfl)) pa_nil))) pa_nil)))))))
      (pss_one (ps_ret (pv 4))))), ?_⟩
    have h32 : 2 ^ t.facts ≤ 32 := Nat.pow_le_pow_right (by decide : 0 < 2) L.facts
    have hfar := L.far
    refine ⟨(by show 0 ≤ sizeLine; decide), fun ly nly => ?_⟩
    have hfl : (fs.map V.ref).length = rest.length + 1 := by rw [List.length_map]; exact L.fl
    refine ⟨_, rfl, lf, _, rfl, .inl (.inl (same_new nly _ _ L.lf)), for_it (walk_enum (K := K) (a := lf) (xs := fs.map V.ref)) (fun i σ H' => ∃ (v5 v6 v7 : Option V) (ds : List Addr), σ = [some (.ref la), some (.ref lr), some (.ref lf), some (.ref lp), some (.ref ly), v5, v6, v7] ∧ LayTn ps t rest s0 f H ly i H' ds) ?_ ?_ ?_ ?_⟩
    · refine ⟨none, none, none, [], rfl, ⟨fun b o e _ => same_new nly _ _ e, upd_same, rfl, fun j a e => by simp at e, fun j a e => ?_⟩⟩
      obtain ⟨S, h1, h2⟩ := L.passed j a e
      exact ⟨S, h1.keep fun o z => same_new nly _ _ z, h2⟩
    · rintro i σ H' _ ⟨v5, v6, v7, ds, rfl, tn⟩
      exact .inl (.inl (tn.but _ _ L.lf (L.out L.lf (fun kp z => by cases z))))
    · rintro i v σ H1 H2 hi ⟨v5, v6, v7, ds, rfl, tn⟩ ⟨b0, v0, v1, rfl, nb0, rfl, e0, e1⟩
      cases e0
      rw [hfl] at hi
      dsimp only at e1
      have hfi : fs[i]? = some (fs[i]'(by rw [L.fl]; exact hi)) := List.getElem?_eq_getElem _
      generalize (fs[i]'(by rw [L.fl]; exact hi)) = fa at hfi
      rw [List.getElem?_map, hfi] at e1
      cases e1
      have hpi : ps[i]? = some (ps[i]'(by rw [L.pl]; exact hi)) := List.getElem?_eq_getElem _
      generalize (ps[i]'(by rw [L.pl]; exact hi)) = pa at hpi
      have hpm : pa ∈ ps := List.mem_of_getElem? hpi
      obtain ⟨F, hF, hFo, hFl⟩ := L.found i fa hfi
      have tn2 := tn.same (same_new (o := .tup [.int (i : Int), .ref fa]) nb0)
      have hT : (upd H1 b0 (.tup [.int (i : Int), .ref fa])) b0 = some (.tup [.int (i : Int), .ref fa]) := upd_same
      generalize upd H1 b0 (.tup [.int (i : Int), .ref fa]) = H2 at tn2 hT
      refine ⟨b0, _, rfl, .of hT, rfl, _, _, rfl, _, _, rfl, rfl, ?_⟩
      -- kept = []
      refine ⟨(by show 0 ≤ sizeLine; decide), fun lk nlk => ?_⟩
      have tn3 := tn2.same (same_new (o := .lst []) nlk)
      have hlk : (upd H2 lk (.lst [])) lk = some (.lst []) := upd_same
      generalize upd H2 lk (.lst []) = H3 at tn3 hlk
      -- the if
      refine ⟨fun σ' H4 => ∃ (lk' : Addr) (ks : List V) (LL : Nat → List (Nat × Pn12.Way)), σ' = [some (.ref la), some (.ref lr), some (.ref lf), some (.ref lp), some (.ref ly), some (.int (i : Int)), some (.ref fa), some (.ref lk')] ∧ LayTn ps t rest s0 f H ly i H4 ds ∧ H4 lk' = some (.lst ks) ∧ Each (PrAt H4) ks (kept t rest LL i) ∧ (∀ j, i = j + 1 → LOk t rest s0 f j (LL j)), ?_, ?_⟩
      · refine ⟨_, rfl, _, _, rfl, rfl, _, rfl, ib (c' := decide (0 < i)) (decide_eq_decide.mpr (by omega)) (fun c1 => ?_) (fun c1 => ?_)⟩
        · have c1 := of_decide_eq_true c1
          obtain ⟨j, rfl⟩ : ∃ j, i = j + 1 := ⟨i - 1, by omega⟩
          have ej : ((j + 1 : Nat) : Int) - 1 = (j : Int) := by omega
          have hrj : rest[j]? = some (rest[j]'(by omega)) := List.getElem?_eq_getElem _
          generalize (rest[j]'(by omega)) = k at hrj
          have hdj : ds[j]? = some (ds[j]'(by rw [tn.len]; omega)) := List.getElem?_eq_getElem _
          generalize (ds[j]'(by rw [tn.len]; omega)) = da at hdj
          have hdr : (ds.map V.ref)[j]? = some (V.ref da) := by rw [List.getElem?_map, hdj]; rfl
          obtain ⟨_, D, ⟨kvs, hd1, hd2⟩, hDo⟩ := tn3.dics j da hdj
          have hDf := hDo.few L.wf L.hs0
          refine ⟨_, rfl, _, rfl, _, rfl, _, _, rfl, rfl, lr, _, _, _, rfl, rfl, .inl (.inl (tn3.but _ _ L.lr (L.out L.lr (fun kp z => by cases z)))), (by rw [ej]; exact atI_nat (nums_get hrj)), _, rfl, _, rfl, _, _, rfl, rfl, ly, _, _, _, rfl, rfl, .inl (.inl tn3.ly), (by rw [ej]; exact atI_nat hdr), la, da, xs, t, k, kvs, D, rfl, .inl (.inl (tn3.but _ _ L.la (L.out L.la (fun kp z => by cases z)))), ?_, L.hrest k (List.mem_of_getElem? hrj), hd1, hd2, by omega, ?_, fun H4 p ks s4 np hp hks => ?_⟩
          · refine L.acts.mono fun x a z => ?_
            obtain ⟨dx, z⟩ := z
            exact ⟨dx, tn3.but _ _ z (L.out z (fun kp z => by cases z))⟩
          · intro y hy
            obtain ⟨h1, h2, _⟩ := hDo.sound y hy
            have := h1.len
            omega
          · refine ⟨p, ks, fun _ => D, rfl, tn3.same s4, hp, ?_, fun j' ej' => ?_⟩
            · show Each (PrAt H4) ks (match rest[j]? with | some k => onD t 0 k D | none => [])
              rw [hrj]
              exact hks 0
            · obtain rfl : j = j' := by omega
              exact hDo
        · have c1 := of_decide_eq_false c1
          obtain rfl : i = 0 := by omega
          exact ⟨lk, [], fun _ => [], rfl, tn3, hlk, Each.nil, fun j e => by omega⟩
      · rintro σ' H4 ⟨lk', ks, LL, rfl, tn4, hlk4, hks, hLL⟩
        obtain ⟨fps, hf1, hf2⟩ := hF.keep (L.tups tn4.but) (fun o z => tn4.but _ _ z (L.out (b := fa) z (fun kp e => by
          obtain ⟨fps, hf1, _⟩ := hF
          rw [hf1] at z
          cases z
          cases e)))
        obtain ⟨S, ⟨kp, hp1, hp2⟩, hSo⟩ := tn4.pas i pa hpi
        rw [if_neg (Nat.lt_irrefl i)] at hSo
        have hSf := hSo.few L.wf L.hs0
        have hpr : (ps.map V.ref)[i]? = some (V.ref pa) := by rw [List.getElem?_map, hpi]; rfl
        have hkd : ∀ y ∈ kept t rest LL i, y.2.d = f := fun y hy => by
          cases i with
          | zero => cases hy
          | succ j =>
            have hy : y ∈ match rest[j]? with | some k => onD t 0 k (LL j) | none => [] := hy
            split at hy
            · obtain ⟨z, hz, _, rfl⟩ := mem_onD.mp hy
              exact ((hLL j rfl).sound z hz).2.1
            · cases hy
        have hkl : (kept t rest LL i).length ≤ 32 := by
          cases i with
          | zero => exact Nat.zero_le _
          | succ j =>
            show (match rest[j]? with | some k => onD t 0 k (LL j) | none => []).length ≤ 32
            split
            · have := (hLL j rfl).few L.wf L.hs0
              exact Nat.le_trans (onD_len _ _ _ _) (by omega)
            · exact Nat.zero_le _
        have hfpl := hf2.len
        have hksl := hks.len
        refine ⟨_, rfl, .inl ⟨rfl, _, .inl (.inl tn4.ly)⟩, _, rfl, _, rfl, fa, lk', _, _, rfl, rfl, hf1, hlk4, ?_, fun pc npc => ?_⟩
        · show fps.length + ks.length ≤ 2 ^ 24
          omega
        have s5 := same_new (o := .lst (fps ++ ks)) npc
        have tn5 := tn4.same s5
        have hX := (hf2.append hks).imp fun _ _ z => PrAt.keep (TupK.same s5) z
        have hpc : (upd H4 pc (.lst (fps ++ ks))) pc = some (.lst (fps ++ ks)) := upd_same
        have hp15 := s5 _ _ hp1
        generalize upd H4 pc (.lst (fps ++ ks)) = H5 at tn5 hX hpc hp15
        refine ⟨_, rfl, _, rfl, lp, _, _, _, rfl, rfl, .inl (.inl (tn5.but _ _ L.hlp (L.out L.hlp (fun kp z => by cases z)))), atI_nat hpr, pc, pa, _, _, kp, S, f, rfl, .inl (.inl hpc), hX, hp15, hp2, ?_, ?_, by omega, fun H6 d kvs kp' D nd hd he bw hdp' hkk hk6 => ?_⟩
        · intro y hy
          rcases List.mem_append.mp hy with hy | hy
          · exact (hFo.sound y hy).2
          · exact hkd y hy
        · rw [List.length_append]
          omega
        have hnd : H d = none ∧ d ∉ ps := by
          have hdn : d ∉ ps := fun hm => by
            obtain ⟨j', hj', ej'⟩ := List.getElem_of_mem hm
            obtain ⟨S', ⟨kq, hq1, _⟩, _⟩ := tn5.pas j' d (by rw [List.getElem?_eq_getElem hj', ej'])
            rw [nd] at hq1
            cases hq1
          rcases tn5.but.free nd with h | h
          · exact ⟨h, hdn⟩
          · exact (hdn h).elim
        have hdLO := layer_ok (L := LL) L.hrest (by omega) hSo hFo hLL bw
        have hlyp : ly ≠ pa := fun z => L.fresh nly (z ▸ hpm)
        have hly6 := hk6 _ _ tn5.ly hlyp
        have t6 : TupK H5 H6 := fun b ys e => hk6 b _ e (ne_of e hp15 (by intro z; cases z))
        have hdly : d ≠ ly := fun z => by rw [z, tn5.ly] at nd; cases nd
        refine ⟨ly, _, _, rfl, rfl, hly6, ?_, ?_⟩
        · rw [List.length_map, tn.len]
          show i < 2 ^ 24
          omega
        have k7 : ∀ b o, H6 b = some o → b ≠ ly → (upd H6 ly (.lst (ds.map V.ref ++ [V.ref d]))) b = some o := fun b o e hb => by rw [upd_ne hb]; exact e
        have t7 : TupK H6 (upd H6 ly (.lst (ds.map V.ref ++ [V.ref d]))) := TupK.at hly6 (fun xs z => by cases z)
        refine ⟨_, _, _, ds ++ [d], rfl, ⟨fun b o e hb => ?_, ?_, ?_, fun j a e => ?_, fun j a e => ?_⟩⟩
        · exact k7 _ _ (hk6 _ _ (tn5.but _ _ e hb) (fun z => hb (z ▸ hpm))) (ne_of_none e nly)
        · rw [upd_same, List.map_append]
          rfl
        · rw [List.length_append, tn.len]
          rfl
        · rcases Nat.lt_or_ge j i with hj | hj
          · rw [List.getElem?_append_left (by rw [tn.len]; exact hj)] at e
            obtain ⟨h1, D', h2, h3⟩ := tn5.dics j a e
            have hap : a ≠ pa := fun z => L.fresh h1 (z ▸ hpm)
            have haly : a ≠ ly := fun z => by
              obtain ⟨kv, h4, _⟩ := h2
              rw [z, tn5.ly] at h4
              cases h4
            exact ⟨h1, D', (h2.keep t6 (fun o z => hk6 _ _ z hap)).keep t7 (fun o z => k7 _ _ z haly), h3⟩
          · rw [List.getElem?_append_right (by rw [tn.len]; exact hj), tn.len] at e
            obtain ⟨rfl⟩ : j = i := by
              have := (List.getElem?_eq_some_iff.mp e).1
              simp at this
              omega
            rw [Nat.sub_self] at e
            cases e
            exact ⟨hnd.1, D, DicAt.keep t7 (fun o z => k7 _ _ z hdly) ⟨kvs, hd, he⟩, hdLO⟩
        · by_cases hji : j = i
          · subst hji
            rw [hpi] at e
            cases e
            refine ⟨S ++ D.map (·.1), ⟨kp', k7 _ _ hdp' (Ne.symm hlyp), hkk⟩, ?_⟩
            rw [if_pos (Nat.lt_succ_self _)]
            exact passed_ok hSo hdLO fun p hp => (bw.sound p hp).2.1
          · obtain ⟨S', h2, h3⟩ := tn5.pas j a e
            have hap : a ≠ pa := fun z => hji (nodup_ix L.nd (z ▸ e) hpi)
            have haly : a ≠ ly := fun z => L.fresh nly (z ▸ List.mem_of_getElem? e)
            refine ⟨S', (h2.keep (fun o z => hk6 _ _ z hap)).keep (fun o z => k7 _ _ z haly), ?_⟩
            have : (if j < i + 1 then f + 1 else f) = if j < i then f + 1 else f := by
              by_cases h : j < i
              · rw [if_pos h, if_pos (by omega)]
              · rw [if_neg h, if_neg (by omega)]
            rw [this]
            exact h3
    · rintro σ H' ⟨v5, v6, v7, ds, rfl, tn⟩
      rw [hfl] at tn
      refine ⟨_, rfl, q H' ly ds nly tn.ly tn.len tn.dics (fun j a e => ?_) tn.but⟩
      obtain ⟨S, h1, h2⟩ := tn.pas j a e
      have hj := (List.getElem?_eq_some_iff.mp e).1
      rw [L.pl] at hj
      rw [if_pos hj] at h2
      exact ⟨S, h1, h2⟩
end
end Md

/-! one_farther. -/
namespace Md
open PySem PySem.Spec PyProof.Rows L2
section
variable {P : Program} {w : World} {K : PySem.W.Frag} {mg : Str → Option Value} {base : Heap} {A : Ad}
theorem paired_len {α β : Type} {G : α → β → Prop} {l : List α} {m : List β} (h : Paired G l m) : l.length = m.length := by
  induction h with
  | nil => rfl
  | cons _ _ ih => rw [List.length_cons, List.length_cons, ih]
structure FarIn (A : Ad) (H : Hp) (la ll : Addr) (xs ds : List Addr) (t : Pn.Task) (rest : List Nat) (s0 f : Nat) : Prop where
  la : H la = some (.lst (xs.map V.ref))
  acts : Acts A H xs t.acts
  ll : H ll = some (.lst (ds.map V.ref))
  dl : ds.length = rest.length + 1
  wf : WF t
  hs0 : s0 < 2 ^ t.facts
  facts : t.facts ≤ 5
  few : t.acts.length ≤ 8
  far : f + rest.length ≤ 5000000
  dics : ∀ (j : Nat) a, ds[j]? = some a → ∃ D, DicAt H a D ∧ LOk t rest s0 f j D
def spFarther (A : Ad) : Sp := fun vs H Q _ => ∃ (la ll : Addr) (xs ds : List Addr) (t : Pn.Task) (rest : List Nat) (s0 f : Nat), vs = [.ref la, .ref ll] ∧ FarIn A H la ll xs ds t rest s0 f ∧
  ∀ (H' : Hp) (l : Addr) (fs : List Addr), Same H H' → H l = none → H' l = some (.lst (fs.map V.ref)) → fs.length = rest.length + 1 → (∀ (j : Nat) a, fs[j]? = some a → ∃ F, LstAt H' a F ∧ FOk t rest s0 (f + 1) j F ∧ F.length ≤ 1000) → Q (.ref l) H'
structure FarTn (t : Pn.Task) (rest : List Nat) (s0 f : Nat) (H : Hp) (lf : Addr) (i : Nat) (H' : Hp) (fs : List Addr) : Prop where
  same : Same H H'
  hlf : H' lf = some (.lst (fs.map V.ref))
  len : fs.length = i
  lsts : ∀ (j : Nat) a, fs[j]? = some a → a ≠ lf ∧ ∃ F, LstAt H' a F ∧ FOk t rest s0 (f + 1) j F ∧ F.length ≤ 1000
theorem FarTn.on {t : Pn.Task} {rest : List Nat} {s0 f : Nat} {H H1 H2 : Hp} {lf : Addr} {i : Nat} {fs : List Addr} (L : FarTn t rest s0 f H lf i H1 fs) (s : Same H1 H2) : FarTn t rest s0 f H lf i H2 fs where
  same := L.same.trans s
  hlf := s _ _ L.hlf
  len := L.len
  lsts := fun j a e => by
    obtain ⟨h1, F, h2, h3⟩ := L.lsts j a e
    exact ⟨h1, F, h2.keep (TupK.same s) (fun o z => s _ _ z), h3⟩
/-- the list pr, new in H, is written to -/
structure Grow (pr : Addr) (H H' : Hp) (X : List (Nat × Pn12.Way)) : Prop where
  but : But [pr] H H'
  pr : LstAt H' pr X
theorem Grow.old {pr : Addr} {H H' : Hp} {X : List (Nat × Pn12.Way)} (g : Grow pr H H' X) {b : Addr} {o : HO} (h : H b = some o) (hb : b ≠ pr) : H' b = some o := g.but b o h (fun z => hb (List.mem_singleton.mp z))
/-- more behind it -/
theorem Grow.more {pr p : Addr} {H H1 H2 : Hp} {X Y : List (Nat × Pn12.Way)} {xs zs : List V} (g : Grow pr H H1 X) (hx : H1 pr = some (.lst xs)) (s : Same H1 H2) (hE : Each (PrAt H2) zs Y) : Grow pr H (upd H2 pr (.lst (xs ++ zs))) (X ++ Y) where
  but := fun b o e hb => by
    rw [upd_ne (fun z => hb (List.mem_singleton.mpr z))]
    exact s _ _ (g.but b o e hb)
  pr := by
    obtain ⟨ps, h1, h2⟩ := g.pr
    rw [hx] at h1
    cases h1
    have k : TupK H2 (upd H2 pr (.lst (xs ++ zs))) := TupK.at (s _ _ hx) (fun xs z => by cases z)
    exact ⟨_, upd_same, (h2.imp fun _ _ z => (z.keep (TupK.same s)).keep k).append (hE.imp fun _ _ z => z.keep k)⟩
theorem ok_one_farther (T : Txt K mg A) : C8.Cal P w K mg base 3 "one_farther" (spFarther A) [] := by
  have c_ways_on : C8.Cal P w K mg base 2 "ways_on" (spWaysOn K A) [] := ok_ways_on T
  obtain ⟨fd, F, B, _⟩ := T.fn_one_farther
  refine ⟨_, fd, _, [], F.ok sc_one_farther (fun vs H Q E h => ?_) (fun cdv A' outer s H vs Q E hr h => ?_), T.g_one_farther, T.kp_one_farther, B, .nil⟩
  · obtain ⟨la, ll, xs, ds, t, rest, s0, f, rfl, _⟩ := h
    rfl
  · obtain ⟨la, ll, xs, ds, t, rest, s0, f, rfl, L, q⟩ := h
    refine ⟨_, (pss_cons (ps_set (i := 2) sc_one_farther.nd rfl (Or.inl rfl) (pe_lst pa_nil))
      (pss_cons (ps_for PassesOwn.never rfl (pi_enum (by rfl) T.n_enumerate (pa_cons (pv 1) pa_nil)) (pg_tup rfl (pgs_cons (pg_name (i := 3) sc_one_farther.nd rfl (Or.inl rfl)) (pgs_cons (pg_name (i := 4) sc_one_farther.nd rfl (Or.inl rfl)) pgs_nil)))
      (pss_cons (ps_set (i := 5) sc_one_farther.nd rfl (Or.inl rfl) (pe_lst pa_nil))
        (pss_cons (ps_for PassesOwn.never rfl (pi_range1 (by rfl) T.n_range (pa_cons (pe_callB call_len_seq (by rfl) T.n_len (by decide +kernel) (pa_cons (pv 0) pa_nil)) pa_nil)) (pg_name (i := 6) sc_one_farther.nd rfl (Or.inl rfl))
        (pss_one (ps_expr (pe_bm PySem.F.plainAttrs_list PySem.F.slot_list_extend PySem.F.type_list_extend mt_extend (pv 5) (pa_cons (C8.pe_c c_ways_on hr (by decide) (by rfl) (pa_cons (pv 0) (pa_cons (pv 6) (pa_cons (pv 4) pa_nil)))) pa_nil)))))
        (C8.pss_cut (ps_if (pt_cmpR op_gt (pv 3) pe_int (nomark _))
        (pss_one (ps_expr (pe_bm PySem.F.plainAttrs_list PySem.F.slot_list_extend PySem.F.type_list_extend mt_extend (pv 5) (pa_cons (LiI.pe_listItems rfl (pe_ix ix_list (pv 1) (pe_op op_sub (pv 3) pe_int) (fun _ _ => rfl)) (by rfl) T.n_list (by decide +kernel)) pa_nil))))
        pss_nil)
        (pss_one (ps_expr (pe_bm PySem.F.plainAttrs_list PySem.F.slot_list_append PySem.F.type_list_append mt_append (pv 2) (pa_cons (pv 5) pa_nil))))))))
      (pss_one (ps_ret (pv 2))))), ?_⟩
    have h32 : 2 ^ t.facts ≤ 32 := Nat.pow_le_pow_right (by decide : 0 < 2) L.facts
    have hfar := L.far
    have hfew := L.few
    refine ⟨(by show 0 ≤ sizeLine; decide), fun lf nlf => ?_⟩
    have hdl : (ds.map V.ref).length = rest.length + 1 := by rw [List.length_map]; exact L.dl
    refine ⟨_, rfl, ll, _, rfl, .inl (.inl (same_new nlf _ _ L.ll)), for_it (walk_enum (K := K) (a := ll) (xs := ds.map V.ref)) (fun i σ H' => ∃ (v3 v4 v5 v6 : Option V) (fs : List Addr), σ = [some (.ref la), some (.ref ll), some (.ref lf), v3, v4, v5, v6] ∧ FarTn t rest s0 f H lf i H' fs) ?_ ?_ ?_ ?_⟩
    · exact ⟨none, none, none, none, [], rfl, ⟨same_new nlf, upd_same, rfl, fun j a e => by simp at e⟩⟩
    · rintro i σ H' _ ⟨v3, v4, v5, v6, fs, rfl, tn⟩
      exact .inl (.inl (tn.same _ _ L.ll))
    · rintro i v σ H1 H2 hi ⟨v3, v4, v5, v6, fs, rfl, tn⟩ ⟨b0, v0, v1, rfl, nb0, rfl, e0, e1⟩
      cases e0
      rw [hdl] at hi
      dsimp only at e1
      have hdi : ds[i]? = some (ds[i]'(by rw [L.dl]; exact hi)) := List.getElem?_eq_getElem _
      generalize (ds[i]'(by rw [L.dl]; exact hi)) = da at hdi
      rw [List.getElem?_map, hdi] at e1
      cases e1
      obtain ⟨D, hD, hDo⟩ := L.dics i da hdi
      have hDf := hDo.few L.wf L.hs0
      have hDw : ∀ p ∈ D, p.2.l.length ≤ 5000000 := fun y hy => by
        obtain ⟨h1, h2, _⟩ := hDo.sound y hy
        have := h1.len
        omega
      have tn2 := tn.on (same_new (o := .tup [.int (i : Int), .ref da]) nb0)
      have hT : (upd H1 b0 (.tup [.int (i : Int), .ref da])) b0 = some (.tup [.int (i : Int), .ref da]) := upd_same
      generalize upd H1 b0 (.tup [.int (i : Int), .ref da]) = H2 at tn2 hT
      refine ⟨b0, _, rfl, .of hT, rfl, _, _, rfl, _, _, rfl, rfl, ?_⟩
      -- pairs = []
      refine ⟨(by show 0 ≤ sizeLine; decide), fun pr npr => ?_⟩
      have tnp : ∀ b o, H2 b = some o → b ≠ pr := fun b o e => ne_of_none e npr
      have g0 : Grow pr H2 (upd H2 pr (.lst [])) [] := ⟨fun b o e _ => same_new npr _ _ e, ⟨[], upd_same, Each.nil⟩⟩
      -- what is known of H in a heap that grew
      have old : ∀ {H' : Hp} {X : List (Nat × Pn12.Way)}, Grow pr H2 H' X → Same H2 H' := fun g b o e => g.old e (tnp b o e)
      have exl : (xs.map V.ref).length = t.acts.length := by
        rw [List.length_map, L.acts.len]
      refine ⟨_, rfl, la, _, rfl, .inl (.inl (.inl (same_new npr _ _ (tn2.same _ _ L.la)))), (t.acts.length : Int), congrArg (fun z : Nat => [V.int (z : Int)]) exl, by omega, by omega, for_it (walk_range (lo := 0) (n := t.acts.length)) (fun k σ H' => ∃ (v6' : Option V), σ = [some (.ref la), some (.ref ll), some (.ref lf), some (.int (i : Int)), some (.ref da), some (.ref pr), v6'] ∧ Grow pr H2 H' (putIn t D k)) ?_ ?_ ?_ ?_⟩
      · exact ⟨v6, rfl, g0⟩
      · exact fun _ _ _ _ _ => trivial
      · rintro k x σ H3 H4 hk ⟨v6', rfl, g⟩ ⟨rfl, rfl⟩
        have ek : (0 : Int) + (k : Int) = (k : Int) := Int.zero_add _
        have sm3 := tn2.same.trans (old g)
        obtain ⟨qs, hq1, hq2⟩ := id g.pr
        obtain ⟨kvs, hd1, hd2⟩ := hD.keep (TupK.same sm3) (fun o z => sm3 _ _ z)
        refine ⟨_, rfl, .inl ⟨rfl, _, .inl (.inl hq1)⟩, _, rfl, _, rfl, _, rfl, la, da, xs, t, k, kvs, D, (by dsimp only; rw [ek]; rfl), .inl (.inl (sm3 _ _ L.la)), L.acts.mono (fun x a z => z.same sm3), hk, hd1, hd2, by omega, hDw, fun H5 p zs s5 np hp hz => ?_⟩
        have hql := hq2.len
        have hzl := (hz 1).len
        have l1 := putIn_len t D k
        have l2 := onD_len t 1 k D
        have l3 : k * D.length ≤ 8 * 32 := Nat.mul_le_mul (by omega) (by omega)
        refine ⟨pr, p, _, _, rfl, rfl, s5 _ _ hq1, hp, ?_, ?_⟩
        · show qs.length + zs.length ≤ 2 ^ 24
          omega
        refine ⟨_, rfl, ?_⟩
        rw [putIn_succ]
        exact g.more (p := p) hq1 s5 (hz 1)
      · rintro σ H3 ⟨v6', rfl, g⟩
        have sm3 := tn2.same.trans (old g)
        have l1 := putIn_len t D t.acts.length
        have l3 : t.acts.length * D.length ≤ 8 * 32 := Nat.mul_le_mul (by omega) (by omega)
        -- the if
        refine ⟨fun σ' H4 => ∃ (LL : Nat → List (Nat × Pn12.Way)), σ' = [some (.ref la), some (.ref ll), some (.ref lf), some (.int (i : Int)), some (.ref da), some (.ref pr), v6'] ∧ Grow pr H2 H4 (putIn t D t.acts.length ++ left LL i) ∧ (∀ j, j ≤ i → i ≤ j + 1 → LOk t rest s0 f j (LL j)) ∧ LL i = D, ?_, ?_⟩
        · refine ⟨_, rfl, _, _, rfl, rfl, _, rfl, ib (c' := decide (0 < i)) (decide_eq_decide.mpr (by omega)) (fun c1 => ?_) (fun c1 => ?_)⟩
          · have c1 := of_decide_eq_true c1
            obtain ⟨j, rfl⟩ : ∃ j, i = j + 1 := ⟨i - 1, by omega⟩
            have ej : ((j + 1 : Nat) : Int) - 1 = (j : Int) := by omega
            have hdj : ds[j]? = some (ds[j]'(by rw [L.dl]; omega)) := List.getElem?_eq_getElem _
            generalize (ds[j]'(by rw [L.dl]; omega)) = dj at hdj
            have hdr : (ds.map V.ref)[j]? = some (V.ref dj) := by rw [List.getElem?_map, hdj]; rfl
            obtain ⟨D', hD', hDo'⟩ := L.dics j dj hdj
            have hDf' := hDo'.few L.wf L.hs0
            obtain ⟨kvs, hd1, hd2⟩ := hD'.keep (TupK.same sm3) (fun o z => sm3 _ _ z)
            obtain ⟨qs, hq1, hq2⟩ := id g.pr
            refine ⟨_, rfl, .inl ⟨rfl, _, .inl (.inl hq1)⟩, _, rfl, _, rfl, _, _, rfl, rfl, ll, _, _, _, rfl, rfl, .inl (.inl (sm3 _ _ L.ll)), (by rw [ej]; exact atI_nat hdr), dj, kvs, rfl, hd1, fun H4 p ts s4 np _ _ hp hts => ?_⟩
            have hE : Each (PrAt H4) (ts.map V.ref) (D'.map fun p => (p.1, ext p.2 1 0 [])) := by
              have hlen : ts.length = kvs.length := paired_len hts
              refine ⟨by rw [List.length_map, List.length_map, hlen]; exact hd2.len, fun x a b e1 e2 => ?_⟩
              rw [List.getElem?_map] at e1 e2
              cases e3 : ts[x]? with
              | none =>
                rw [e3] at e1
                cases e1
              | some tt =>
                rw [e3] at e1
                cases e1
                obtain ⟨kv, e4, e5⟩ := LiI.paired_get hts e3
                obtain ⟨p', hp', h1, h2⟩ := hd2.get e4
                rw [hp'] at e2
                cases e2
                refine ⟨tt, kv.2, rfl, ?_, ?_⟩
                · rw [e5, h1]
                  rfl
                · obtain ⟨wt, w2, ew, z1, z2⟩ := h2.keep (TupK.same s4)
                  refine ⟨wt, w2, ew, ?_, ?_⟩
                  · show H4 wt = some (.tup [.int ((p'.2.c + 0 : Nat) : Int), .int ((p'.2.l ++ []).length : Int), .ref w2])
                    rw [List.append_nil]
                    exact z1
                  · show H4 w2 = some (.tup (nums (p'.2.l ++ [])))
                    rw [List.append_nil]
                    exact z2
            have hql := hq2.len
            have hEl := hE.len
            rw [List.length_map, List.length_map] at hEl
            refine ⟨pr, p, _, _, rfl, rfl, s4 _ _ hq1, hp, ?_, ?_⟩
            · rw [List.length_map]
              show qs.length + ts.length ≤ 2 ^ 24
              omega
            refine ⟨fun x => if x = j + 1 then D else D', rfl, ?_, fun x hx hx2 => ?_, if_pos rfl⟩
            · have : left (fun x => if x = j + 1 then D else D') (j + 1) = D'.map fun p => (p.1, ext p.2 1 0 []) := by
                show (if j = j + 1 then D else D').map _ = _
                rw [if_neg (by omega)]
              rw [this]
              exact g.more (p := p) hq1 s4 hE
            · dsimp only
              by_cases h : x = j + 1
              · rw [if_pos h, h]
                exact hDo
              · rw [if_neg h]
                obtain rfl : x = j := by omega
                exact hDo'
          · have c1 := of_decide_eq_false c1
            obtain rfl : i = 0 := by omega
            refine ⟨fun _ => D, rfl, ?_, fun x hx _ => ?_, rfl⟩
            · show Grow pr H2 H3 (putIn t D t.acts.length ++ [])
              rw [List.append_nil]
              exact g
            · obtain rfl : x = 0 := by omega
              exact hDo
        · rintro σ' H4 ⟨LL, rfl, g4, hLL, hLi⟩
          have sm4 := old g4
          have tn4 := tn2.on sm4
          refine ⟨_, rfl, .inl ⟨rfl, _, .inl (.inl tn4.hlf)⟩, _, rfl, lf, _, _, rfl, rfl, tn4.hlf, ?_, ?_⟩
          · rw [List.length_map, tn.len]
            show i < 2 ^ 24
            omega
          have kD : TupK H4 (upd H4 lf (.lst (fs.map V.ref ++ [V.ref pr]))) := TupK.at tn4.hlf (fun xs z => by cases z)
          have k5 : ∀ b o, H4 b = some o → b ≠ lf → (upd H4 lf (.lst (fs.map V.ref ++ [V.ref pr]))) b = some o := fun b o e hb => by rw [upd_ne hb]; exact e
          have hprlf : pr ≠ lf := fun z => by
            rw [z, tn2.hlf] at npr
            cases npr
          refine ⟨_, _, _, _, fs ++ [pr], rfl, ⟨fun b o e => k5 _ _ (tn4.same _ _ e) (ne_of_none e nlf), ?_, ?_, fun j a e => ?_⟩⟩
          · rw [upd_same, List.map_append]
            rfl
          · rw [List.length_append, tn.len]
            rfl
          · rcases Nat.lt_or_ge j i with hj | hj
            · rw [List.getElem?_append_left (by rw [tn.len]; exact hj)] at e
              obtain ⟨h1, F', h2, h3⟩ := tn4.lsts j a e
              exact ⟨h1, F', h2.keep kD (fun o z => k5 _ _ z h1), h3⟩
            · rw [List.getElem?_append_right (by rw [tn.len]; exact hj), tn.len] at e
              obtain rfl : j = i := by
                have := (List.getElem?_eq_some_iff.mp e).1
                simp at this
                omega
              rw [Nat.sub_self] at e
              cases e
              refine ⟨hprlf, _, g4.pr.keep kD (fun o z => k5 _ _ z hprlf), ?_, ?_⟩
              · have := found_ok (t := t) (old := rest) (s0 := s0) (f := f) (i := j) (L := LL) (by omega) hLL
                rw [hLi] at this
                exact this
              · have : (left LL j).length ≤ 32 := by
                  cases j with
                  | zero => exact Nat.zero_le _
                  | succ x =>
                    show ((LL x).map _).length ≤ 32
                    rw [List.length_map]
                    exact Nat.le_trans ((hLL x (Nat.le_succ _) (Nat.le_refl _)).few L.wf L.hs0) h32
                rw [List.length_append]
                omega
    · rintro σ H' ⟨v3, v4, v5, v6, fs, rfl, tn⟩
      rw [hdl] at tn
      exact ⟨_, rfl, q H' lf fs tn.same nlf tn.hlf tn.len fun j a e => (tn.lsts j a e).2⟩
end
end Md

/-! nearest_plan. -/
namespace Md
open PySem PySem.Spec PyProof.Rows L2
open PySem.W (Datum DatumOrd dataLt)
def lenDR : List V → Hp → VK → Prop := fun xs H Q => ∃ a kvs, xs = [V.ref a] ∧ H a = some (.dK kvs) ∧ Q (.int kvs.length) H
theorem choose_list {α : Type} {R : Nat → α → List (Nat × Pn12.Way) → Prop} {ds : List α} (h : ∀ (j : Nat) a, ds[j]? = some a → ∃ x, R j a x) : ∃ Ls : List (List (Nat × Pn12.Way)), Ls.length = ds.length ∧ ∀ (j : Nat) a x, ds[j]? = some a → Ls[j]? = some x → R j a x := by
  have h' : ∀ j : Nat, ∃ x, ∀ a, ds[j]? = some a → R j a x := fun j => by
    cases e : ds[j]? with
    | none => exact ⟨[], fun a z => by cases z⟩
    | some a =>
      obtain ⟨x, hx⟩ := h j a e
      exact ⟨x, fun a' z => by cases z; exact hx⟩
  refine ⟨(List.range ds.length).map fun j => Classical.choose (h' j), by rw [List.length_map, List.length_range], fun j a x e1 e2 => ?_⟩
  have hj := (List.getElem?_eq_some_iff.mp e1).1
  rw [List.getElem?_map, List.getElem?_range hj] at e2
  cases e2
  exact Classical.choose_spec (h' j) a e1
/-- the ways of those states in which all that is wanted is so -/
def endsOf (t : Pn.Task) (D : List (Nat × Pn12.Way)) : List Pn12.Way := D.filterMap fun p => if t.done p.1 = true then some p.2 else none
theorem mem_ends {t : Pn.Task} {D : List (Nat × Pn12.Way)} {w : Pn12.Way} : w ∈ endsOf t D ↔ ∃ p ∈ D, t.done p.1 = true ∧ w = p.2 := by
  unfold endsOf
  rw [List.mem_filterMap]
  constructor
  · rintro ⟨p, hp, h⟩
    split at h
    · next hd =>
      cases h
      exact ⟨p, hp, hd, rfl⟩
    · cases h
  · rintro ⟨p, hp, hd, rfl⟩
    exact ⟨p, hp, if_pos hd⟩
theorem ends_more {t : Pn.Task} {D : List (Nat × Pn12.Way)} {i : Nat} {p : Nat × Pn12.Way} (h : D[i]? = some p) : endsOf t (D.take (i + 1)) = endsOf t (D.take i) ++ (if t.done p.1 = true then [p.2] else []) := by
  rw [take_more h]
  unfold endsOf
  rw [List.filterMap_append]
  refine congrArg _ ?_
  by_cases c : t.done p.1 = true
  · rw [if_pos c, List.filterMap_cons, if_pos c]
    rfl
  · rw [if_neg c, List.filterMap_cons, if_neg c]
    rfl
theorem ends_len (t : Pn.Task) (D : List (Nat × Pn12.Way)) : (endsOf t D).length ≤ D.length := List.length_filterMap_le _ _
def wD (w : Pn12.Way) : PyData := Datum.toD (w3 w)
theorem wD_map (C : List Pn12.Way) : C.map wD = (C.map w3).map Datum.toD := by
  rw [List.map_map]
  rfl
theorem wD_trans {C : List Pn12.Way} {f : Nat} (hf : ∀ w ∈ C, w.d = f) : ∀ x ∈ C.map wD, ∀ y ∈ C.map wD, ∀ z ∈ C.map wD, dataLt x y = true → dataLt y z = true → dataLt x z = true := by
  intro x hx y hy z hz h k
  obtain ⟨a, ha, rfl⟩ := List.mem_map.mp hx
  obtain ⟨b, hb, rfl⟩ := List.mem_map.mp hy
  obtain ⟨c, hc, rfl⟩ := List.mem_map.mp hz
  have ea := hf a ha
  have eb := hf b hb
  have ec := hf c hc
  unfold wD at *
  rw [wy_lt (by omega)] at *
  exact better_trans h k
section
variable {P : Program} {w : World} {K : PySem.W.Frag} {mg : Str → Option Value} {base : Heap} {A : Ad}
def spNear (A : Ad) : Sp := fun vs H Q _ => ∃ (la lr : Addr) (xs : List Addr) (t : Pn.Task) (rest : List Nat) (s0 : Nat), vs = [.ref la, .ref lr, .int s0, .int t.goal] ∧ H la = some (.lst (xs.map V.ref)) ∧ Acts A H xs t.acts ∧ H lr = some (.lst (nums rest)) ∧ (∀ k ∈ rest, k < t.acts.length) ∧ WF t ∧ s0 < 2 ^ t.facts ∧ t.facts ≤ 5 ∧ t.acts.length ≤ 8 ∧ rest.length ≤ 2000000 ∧
  (Pn12.nearest t rest s0 = none → ∀ H', Same H H' → Q .non H') ∧ (∀ w H' p p2, Pn12.nearest t rest s0 = some w → w.l.length ≤ 5000000 → Same H H' → H' p = some (.tup [.int (w.d : Nat), .int (w.c : Nat), .ref p2]) → H' p2 = some (.tup (nums w.l)) → Q (.ref p) H')
theorem ok_nearest_plan (T : Txt K mg A) : C8.Cal P w K mg base 4 "nearest_plan" (spNear A) [] := by
  have c_layer_of : C8.Cal P w K mg base 3 "layer_of" (spLayer A) [] := ok_layer_of T
  have c_one_farther : C8.Cal P w K mg base 3 "one_farther" (spFarther A) [] := ok_one_farther T
  obtain ⟨fd, F, B, _⟩ := T.fn_nearest_plan
  refine ⟨_, fd, _, [], F.ok sc_nearest_plan (fun vs H Q E h => ?_) (fun cdv A' outer s H vs Q E hr h => ?_), T.g_nearest_plan, T.kp_nearest_plan, B, .nil⟩
  · obtain ⟨la, lr, xs, t, rest, s0, rfl, _⟩ := h
    rfl
  · obtain ⟨la, lr, xs, t, rest, s0, rfl, hla, ha, hlr, hrest, hW, hs0, h5, h8, hrl, q1, q2⟩ := h
    refine ⟨_, (pss_cons (ps_setLc (i := 4) (own := [("place", 10)]) (g := gName 10) (tt := tYes) (by rfl) sc_nearest_plan.nd rfl rfl (sw_true rfl rfl rfl (by decide +kernel)) (pi_range1 (by rfl) T.n_range (pa_cons (pe_op op_add (pe_callB call_len_seq (by rfl) T.n_len (by decide +kernel) (pa_cons (pv 1) pa_nil)) pe_int) pa_nil)) (blkOk_by (own := [("place", 10)]) (N := n_nearest_plan) (sc := defScope s_nearest_plan) (by decide +kernel)) (fun _ _ _ _ _ => pg_name (i := 10) sc_nearest_plan.nd rfl (Or.inl rfl)) (fun _ _ _ _ _ => pts_nil) (fun _ _ _ _ _ => by exact pe_dnewK))
      (pss_cons (ps_setLc (i := 5) (own := [("place", 10)]) (g := gName 10) (tt := tYes) (by rfl) sc_nearest_plan.nd rfl rfl (sw_true rfl rfl rfl (by decide +kernel)) (pi_range1 (by rfl) T.n_range (pa_cons (pe_op op_add (pe_callB call_len_seq (by rfl) T.n_len (by decide +kernel) (pa_cons (pv 1) pa_nil)) pe_int) pa_nil)) (blkOk_by (own := [("place", 10)]) (N := n_nearest_plan) (sc := defScope s_nearest_plan) (by decide +kernel)) (fun _ _ _ _ _ => pg_name (i := 10) sc_nearest_plan.nd rfl (Or.inl rfl)) (fun _ _ _ _ _ => pts_nil) (fun _ _ _ _ _ => by exact (pe_lst pa_nil)))
      (pss_cons (ps_expr (pe_bm PySem.F.plainAttrs_list PySem.F.slot_list_append PySem.F.type_list_append mt_append (pe_ix ix_list (pv 5) pe_int (fun _ _ => rfl)) (pa_cons (pe_tup (pa_cons (pv 2) (pa_cons (pe_tup (pa_cons pe_int (pa_cons pe_int (pa_cons (pe_tup pa_nil) pa_nil)))) pa_nil))) pa_nil)))
      (pss_cons (ps_set (i := 6) sc_nearest_plan.nd rfl (Or.inl rfl) pe_int)
      (pss_one (ps_while PassesOwn.never (pt_val pe_bl)
      (pss_cons (ps_set (i := 7) sc_nearest_plan.nd rfl (Or.inl rfl) (C8.pe_c c_layer_of hr (by decide) (by rfl) (pa_cons (pv 0) (pa_cons (pv 1) (pa_cons (pv 5) (pa_cons (pv 4) pa_nil))))))
        (pss_cons (ps_if (pt_val (pe_callB (cr_all rfl) (by rfl) T.n_all (by decide +kernel) (pa_cons (pe_lc (own := [("ways", 13)]) (g := gName 13) (tt := tYes) (te := tOp rEq (tCB lenDR (tCons (tVar 13) tNil)) (tC (.int 0))) (by rfl) sc_nearest_plan.nd (pi_list (pv 7)) (blkOk_by (own := [("ways", 13)]) (N := n_nearest_plan) (sc := defScope s_nearest_plan) (by decide +kernel)) (fun _ _ _ _ _ => pg_name (i := 13) sc_nearest_plan.nd rfl (Or.inl rfl)) (fun _ _ _ _ _ => pts_nil) (fun _ _ _ _ _ => by exact (pe_cmpR op_eq (pe_callB call_lenD (by rfl) T.n_len (by decide +kernel) (pa_cons (pv 13) pa_nil)) pe_int (nomark _)))) pa_nil)))
        (pss_one (ps_ret pe_non))
        pss_nil)
        (pss_cons (ps_lock (ps_setLc (i := 8) (own := [("there", 11), ("way", 12)]) (g := gTup K 2 (gCons (gName 11) (gCons (gName 12) gNil))) (tt := tTest (tOp rEq (tOp (rI0 fun i j => .int (Builtin.bitAnd i j)) (tVar 11) (tVar 3)) (tVar 3))) (te := tVar 12) (by rfl) sc_nearest_plan.nd rfl rfl (sw_true rfl rfl rfl (by decide +kernel)) (pi_items (pe_ix ix_list (pv 7) (pe_un un_neg pe_int) (fun _ _ => rfl))) (blkOk_by (own := [("there", 11), ("way", 12)]) (N := n_nearest_plan) (sc := defScope s_nearest_plan) (by decide +kernel)) (fun _ _ _ _ _ => (pg_tup rfl (pgs_cons (pg_name (i := 11) sc_nearest_plan.nd rfl (Or.inl rfl)) (pgs_cons (pg_name (i := 12) sc_nearest_plan.nd rfl (Or.inl rfl)) pgs_nil)))) (fun _ _ _ _ _ => pts_one (pt_cmpR op_eq (pe_op op_and (pv 11) (pv 3)) (pv 3) (nomark _))) (fun _ _ _ _ _ => by exact (pv 12))))
        (pss_cons (ps_if (pt_cmpR op_gt (pe_callB call_len_seq (by rfl) T.n_len (by decide +kernel) (pa_cons (pv 8) pa_nil)) pe_int (nomark _))
        (pss_cons (ps_set (i := 9) sc_nearest_plan.nd rfl (Or.inl rfl) (pe_callB (cr_minD rfl hr.units) (by rfl) T.n_min (by decide +kernel) (pa_cons (pv 8) pa_nil)))
          (pss_one (ps_ret (pe_tup (pa_cons (pv 6) (pa_cons (pe_ix ix_tup (pv 9) pe_int (fun _ _ => rfl)) (pa_cons (pe_ix ix_tup (pv 9) pe_int (fun _ _ => rfl)) pa_nil)))))))
        pss_nil)
        (pss_cons (ps_set (i := 5) sc_nearest_plan.nd rfl (Or.inl rfl) (C8.pe_c c_one_farther hr (by decide) (by rfl) (pa_cons (pv 0) (pa_cons (pv 7) pa_nil))))
        (pss_one (ps_aug (i := 6) sc_nearest_plan.nd rfl (Or.inl rfl) pe_int ip_add))))))))))))), ?_⟩
    have h32 : 2 ^ t.facts ≤ 32 := Nat.pow_le_pow_right (by decide : 0 < 2) h5
    have hnl : (nums rest).length = rest.length := nums_len rest
    have ern : ((nums rest).length : Int) + 1 = ((rest.length + 1 : Nat) : Int) := by omega
    -- passed = [{} for place in range(len(rest) + 1)]
    refine ⟨_, rfl, lr, _, rfl, .inl (.inl (.inl hlr)), _, _, rfl, rfl, ((rest.length + 1 : Nat) : Int), congrArg (fun z : Int => [V.int z]) ern, by omega, by omega, fun lp nlp => lc_it (walk_range (lo := 0) (n := rest.length + 1)) (fun i H' => Same H H' ∧ ∃ ps : List Addr, H' lp = some (.lst (ps.map V.ref)) ∧ ps.length = i ∧ ps.Nodup ∧ ∀ a ∈ ps, H' a = some (.dK []) ∧ H a = none) ?_ ?_ ?_ ?_⟩
    · exact ⟨same_new nlp, [], upd_same, rfl, List.nodup_nil, fun a h => by cases h⟩
    · exact fun _ _ _ _ => trivial
    · rintro i x H1 H2 hi ⟨sm, ps, hp, hl, hn, hps⟩ ⟨rfl, rfl⟩
      refine ⟨rfl, tyes fun d nd => ⟨_, same_new nd _ _ hp, ?_, fun b o e => ?_, ps ++ [d], ?_, ?_, ?_, fun a h => ?_⟩⟩
      · rw [List.length_map, hl]
        show i < 2 ^ 24
        omega
      · rw [upd_ne (ne_of_none e nlp)]
        exact same_new nd _ _ (sm _ _ e)
      · rw [upd_same, List.map_append]
        rfl
      · rw [List.length_append, hl]
        rfl
      · refine List.nodup_append.mpr ⟨hn, List.nodup_cons.mpr ⟨fun h => (by cases h), List.nodup_nil⟩, fun a h b hb e => ?_⟩
        subst e
        have e2 : a = d := by simpa using hb
        have := (hps a h).1
        rw [e2, nd] at this
        cases this
      · have hdl : d ≠ lp := fun z => by rw [z, hp] at nd; cases nd
        rcases List.mem_append.mp h with h | h
        · obtain ⟨h1, h2⟩ := hps a h
          have hal : a ≠ lp := fun z => by rw [z, hp] at h1; cases h1
          refine ⟨?_, h2⟩
          rw [upd_ne hal]
          exact same_new nd _ _ h1
        · rw [List.mem_singleton] at h
          subst h
          refine ⟨?_, sm.free nd⟩
          rw [upd_ne hdl, upd_same]
    rintro H1 ⟨sm1, ps, hlp, hpl, hpn, hps⟩
    -- found = [[] for place in range(len(rest) + 1)]
    refine ⟨_, rfl, lr, _, rfl, .inl (.inl (.inl (sm1 _ _ hlr))), _, _, rfl, rfl, ((rest.length + 1 : Nat) : Int), congrArg (fun z : Int => [V.int z]) ern, by omega, by omega, fun lf nlf => lc_it (walk_range (lo := 0) (n := rest.length + 1)) (fun i H' => Same H1 H' ∧ ∃ fs : List Addr, H' lf = some (.lst (fs.map V.ref)) ∧ fs.length = i ∧ fs.Nodup ∧ ∀ a ∈ fs, H' a = some (.lst []) ∧ H1 a = none ∧ a ≠ lf) ?_ ?_ ?_ ?_⟩
    · exact ⟨same_new nlf, [], upd_same, rfl, List.nodup_nil, fun a h => by cases h⟩
    · exact fun _ _ _ _ => trivial
    · rintro i x H2 H3 hi ⟨sm, fs, hp, hl, hn, hfs⟩ ⟨rfl, rfl⟩
      refine ⟨rfl, tyes ⟨(by show 0 ≤ sizeLine; decide), fun d nd => ⟨_, same_new nd _ _ hp, ?_, fun b o e => ?_, fs ++ [d], ?_, ?_, ?_, fun a h => ?_⟩⟩⟩
      · rw [List.length_map, hl]
        show i < 2 ^ 24
        omega
      · rw [upd_ne (ne_of_none e nlf)]
        exact same_new nd _ _ (sm _ _ e)
      · rw [upd_same, List.map_append]
        rfl
      · rw [List.length_append, hl]
        rfl
      · refine List.nodup_append.mpr ⟨hn, List.nodup_cons.mpr ⟨fun h => (by cases h), List.nodup_nil⟩, fun a h b hb e => ?_⟩
        subst e
        have e2 : a = d := by simpa using hb
        have := (hfs a h).1
        rw [e2, nd] at this
        cases this
      · have hdl : d ≠ lf := fun z => by rw [z, hp] at nd; cases nd
        rcases List.mem_append.mp h with h | h
        · obtain ⟨h1, h2, h3⟩ := hfs a h
          refine ⟨?_, h2, h3⟩
          rw [upd_ne h3]
          exact same_new nd _ _ h1
        · rw [List.mem_singleton] at h
          subst h
          refine ⟨?_, sm.free nd, hdl⟩
          rw [upd_ne hdl, upd_same]
    rintro H2 ⟨sm2, fs, hlf, hfl, hfn, hfs⟩
    -- found[0].append((state, (0, 0, ())))
    have hf0 : fs[0]? = some (fs[0]'(by omega)) := List.getElem?_eq_getElem _
    generalize (fs[0]'(by omega)) = f0 at hf0
    have hfr : (fs.map V.ref)[0]? = some (V.ref f0) := by rw [List.getElem?_map, hf0]; rfl
    obtain ⟨hf01, hf02, hf03⟩ := hfs f0 (List.mem_of_getElem? hf0)
    refine ⟨_, rfl, lf, _, 0, _, rfl, rfl, .inl (.inl hlf), atI_nat (j := 0) hfr, .inl ⟨rfl, _, .inl (.inl hf01)⟩, _, rfl, (by show 0 ≤ sizeLine; decide), fun e2 ne2 => ⟨(by show 3 ≤ sizeLine; decide), fun e1 ne1 => ⟨(by show 2 ≤ sizeLine; decide), fun e0 ne0 => ?_⟩⟩⟩
    have k2 := same_new (o := .tup []) ne2
    have k1 := same_new (o := .tup [.int 0, .int 0, .ref e2]) ne1
    have k0 := same_new (o := .tup [.int (s0 : Int), .ref e1]) ne0
    have k3 := k2.trans (k1.trans k0)
    have he2 := k0 _ _ (k1 _ _ (upd_same (H := H2) (a := e2) (o := .tup [])))
    have he1 := k0 _ _ (upd_same (H := upd H2 e2 (.tup [])) (a := e1) (o := .tup [.int 0, .int 0, .ref e2]))
    have he0 := upd_same (H := upd (upd H2 e2 (.tup [])) e1 (.tup [.int 0, .int 0, .ref e2])) (a := e0) (o := .tup [.int (s0 : Int), .ref e1])
    generalize upd (upd (upd H2 e2 (.tup [])) e1 (.tup [.int 0, .int 0, .ref e2])) e0 (.tup [.int (s0 : Int), .ref e1]) = H3 at k3 he2 he1 he0
    refine ⟨f0, _, _, rfl, rfl, k3 _ _ hf01, (by show 0 < sizeLine; decide), ?_⟩
    have kD : TupK H3 (upd H3 f0 (.lst ([] ++ [V.ref e0]))) := TupK.at (k3 _ _ hf01) (fun xs z => by cases z)
    have k4 : ∀ b o, H3 b = some o → b ≠ f0 → (upd H3 f0 (.lst ([] ++ [V.ref e0]))) b = some o := fun b o e hb => by rw [upd_ne hb]; exact e
    have hf4 : (upd H3 f0 (.lst ([] ++ [V.ref e0]))) f0 = some (.lst [V.ref e0]) := upd_same
    generalize upd H3 f0 (.lst ([] ++ [V.ref e0])) = H4 at kD k4 hf4
    have S4 : Same H H4 := fun b o e => k4 _ _ (k3 _ _ (sm2 _ _ (sm1 _ _ e))) (fun z => by
      rw [z] at e
      have := sm1 _ _ e
      rw [hf02] at this
      cases this)
    have S14 : ∀ b o, H1 b = some o → H4 b = some o := fun b o e => k4 _ _ (k3 _ _ (sm2 _ _ e)) (ne_of_none e hf02)
    have start : LayIn A H4 la lr lf lp xs fs ps t rest s0 0 := by
      refine ⟨S4 _ _ hla, ha.mono (fun x a z => z.same S4), S4 _ _ hlr, hrest, k4 _ _ (k3 _ _ hlf) (Ne.symm hf03), S14 _ _ hlp, hfl, hpl, hpn, hW, hs0, h5, by omega, fun j a e => ?_, fun j a e => ?_⟩
      · cases j with
        | zero =>
          rw [hf0] at e
          cases e
          refine ⟨[(s0, ⟨0, 0, []⟩)], ⟨_, hf4, Each.one ⟨e0, _, rfl, kD _ _ he0, e1, e2, rfl, kD _ _ he1, kD _ _ he2⟩⟩, start_f0, (by show 1 ≤ 1000; decide)⟩
        | succ j =>
          have hne : a ≠ f0 := fun z => by
            rw [z] at e
            have := nodup_ix hfn e hf0
            omega
          exact ⟨[], ⟨[], k4 _ _ (k3 _ _ (hfs a (List.mem_of_getElem? e)).1) hne, Each.nil⟩, start_f (Nat.succ_pos _), Nat.zero_le _⟩
      · exact ⟨[], ⟨[], S14 _ _ (hps a (List.mem_of_getElem? e)).1, rfl⟩, start_s⟩
    have hpsH : ∀ a ∈ ps, H a = none := fun a h => (hps a h).2
    clear hps hf4 he0 he1 he2 kD k4 hf01 hf02 hf03 hfs hfn hf0 hfr hlf hlp k3 k0 k1 k2 sm1 sm2 S14
    -- far = 0; while True
    refine while_by (fun σ H' => ∃ (f : Nat) (lf : Addr) (fs : List Addr) (v7 v8 v9 v10 v11 v12 v13 : Option V), σ = [some (.ref la), some (.ref lr), some (.int (s0 : Int)), some (.int (t.goal : Int)), some (.ref lp), some (.ref lf), some (.int (f : Int)), v7, v8, v9, v10, v11, v12, v13] ∧ Same H H' ∧ LayIn A H' la lr lf lp xs fs ps t rest s0 f ∧ NotYet t rest s0 f)
      (fun σ _ => match σ with | [_, _, _, _, _, _, some (.int z), _, _, _, _, _, _, _] => 2 ^ t.facts + rest.length + 1 - z.toNat | _ => 0) ?_ ?_ ?_
    · exact ⟨0, lf, fs, none, none, none, none, none, none, none, rfl, S4, start, not_yet0⟩
    · rintro σ H' ⟨f, lf, fs, v7, v8, v9, v10, v11, v12, v13, rfl, S5, L, ny⟩
      refine ⟨_, rfl, itrue rfl ?_⟩
      -- layer = layer_of(acts, rest, found, passed)
      refine ⟨_, rfl, _, rfl, _, rfl, _, rfl, la, lr, lf, lp, xs, fs, ps, t, rest, s0, f, rfl, L, fun H1 ly ds nly hly hdl hdics hpas hbut => ?_⟩
      have S6 : Same H H1 := fun b o e => hbut b o (S5 _ _ e) (fun hb => by rw [hpsH b hb] at e; cases e)
      obtain ⟨Ls, hLl, hLs⟩ := choose_list (R := fun j a D => DicAt H1 a D ∧ LOk t rest s0 f j D) fun j a e => (hdics j a e).2
      have hLO : ∀ (j : Nat) D, Ls[j]? = some D → LOk t rest s0 f j D := fun j D e => by
        have hj := (List.getElem?_eq_some_iff.mp e).1
        have hd : ds[j]? = some (ds[j]'(by omega)) := List.getElem?_eq_getElem _
        exact (hLs j _ D hd e).2
      -- all([len(ways) == 0 for ways in layer])
      refine ⟨_, rfl, ly, rfl, ⟨_, .inl (.inl hly)⟩, fun lb nlb => lc_it (walk_list (K := K) (a := ly) (xs := ds.map V.ref)) (fun i H' => Same H1 H' ∧ H' lb = some (.lst (((Ls.take i).map fun D => decide (D.length = 0)).map V.bl))) ?_ ?_ ?_ ?_⟩
      · exact ⟨same_new nlb, upd_same⟩
      · rintro i H' _ ⟨sm, _⟩
        exact .inl (.inl (sm _ _ hly))
      · rintro i x H2 H3 hi ⟨sm, hb⟩ ⟨rfl, hx⟩
        rw [List.length_map] at hi
        have hd : ds[i]? = some ds[i] := List.getElem?_eq_getElem hi
        generalize ds[i] = da at hd
        rw [List.getElem?_map, hd] at hx
        cases hx
        have hD : Ls[i]? = some (Ls[i]'(by omega)) := List.getElem?_eq_getElem _
        generalize (Ls[i]'(by omega)) = D at hD
        obtain ⟨⟨kvs, h1, h2⟩, _⟩ := hLs i da D hd hD
        have hkl := h2.len
        refine ⟨rfl, tyes ⟨_, rfl, da, kvs, rfl, sm _ _ h1, rfl, _, hb, ?_, fun b o e => ?_, ?_⟩⟩
        · rw [List.length_map, List.length_map, List.length_take]
          show min i Ls.length < 2 ^ 24
          omega
        · rw [upd_ne (ne_of_none e nlb)]
          exact sm _ _ e
        · have ez : decide (V.int (kvs.length : Int) = V.int 0) = decide (D.length = 0) := decide_eq_decide.mpr ⟨fun e => by injection e with e; omega, fun e => by rw [hkl, e]; rfl⟩
          show (upd H3 lb (.lst (_ ++ [V.bl (decide (V.int (kvs.length : Int) = V.int 0))]))) lb = _
          rw [upd_same, take_more hD, ez, List.map_append, List.map_append]
          rfl
      rintro H2 ⟨sm2, hb⟩
      rw [List.length_map, ← hLl, List.take_length] at hb
      have S7 := S6.trans sm2
      refine ⟨lb, _, rfl, .inl (.inl hb), _, rfl, ?_⟩
      refine ib (c' := Ls.all fun D => decide (D.length = 0)) ?_ (fun c1 => ?_) (fun c1 => ?_)
      · rw [List.all_map]
        rfl
      · -- no way on
        refine q1 (Best.unique (nearest_best hW rest hs0) (none_found (f := f) (fun i hi => ?_) ny)) H2 S7
        have hD : Ls[i]? = some (Ls[i]'(by omega)) := List.getElem?_eq_getElem _
        generalize (Ls[i]'(by omega)) = D at hD
        have := List.all_eq_true.mp c1 D (List.mem_of_getElem? hD)
        have h0 : D.length = 0 := of_decide_eq_true this
        have hO := hLO i D hD
        rw [List.eq_nil_of_length_eq_zero h0] at hO
        exact hO
      · -- how far
        have hff : f < 2 ^ t.facts + rest.length := by
          obtain ⟨D, hm, hne⟩ : ∃ D ∈ Ls, ¬ D.length = 0 := by
            obtain ⟨D, hm, hz⟩ := List.all_eq_false.mp c1
            exact ⟨D, hm, fun z => hz (decide_eq_true z)⟩
          obtain ⟨i, hi, e⟩ := List.getElem_of_mem hm
          have hO := hLO i D (by rw [List.getElem?_eq_getElem hi, e])
          cases D with
          | nil => exact (hne rfl).elim
          | cons p D =>
            have := hO.near hW hs0 (by omega) (List.mem_cons_self ..)
            omega
        -- ends
        have hdn : ds[rest.length]? = some (ds[rest.length]'(by omega)) := List.getElem?_eq_getElem _
        generalize (ds[rest.length]'(by omega)) = dl at hdn
        have hLn : Ls[rest.length]? = some (Ls[rest.length]'(by omega)) := List.getElem?_eq_getElem _
        generalize (Ls[rest.length]'(by omega)) = D at hLn
        obtain ⟨hdic, hDo⟩ := hLs rest.length dl D hdn hLn
        obtain ⟨kvs, hd1, hd2⟩ := hdic.keep (TupK.same sm2) (fun o z => sm2 _ _ z)
        have eds : ds.map V.ref = (ds.take rest.length).map V.ref ++ [V.ref dl] := by
          have := take_more hdn
          rw [← hdl, List.take_length] at this
          conv => lhs; rw [this]
          rw [List.map_append]
          rfl
        have hly2 : H2 ly = some (.lst ((ds.take rest.length).map V.ref ++ [V.ref dl])) := by rw [← eds]; exact sm2 _ _ hly
        have hDf := hDo.few hW hs0
        have hkl := hd2.len
        refine ⟨dl, _, hd1, trivial, fun od => ?_⟩
        have hly0 : (upd H2 dl (.frz od (.dK kvs))) ly = some (.lst ((ds.take rest.length).map V.ref ++ [V.ref dl])) := by rw [upd_ne (ne_of hly2 hd1 (by intro z; cases z))]; exact hly2
        have hd20 := hd2.imp fun _ _ z => EnAt.keep (TupK.at (o := .frz od (.dK kvs)) hd1 (fun xs z => by cases z)) z
        refine ⟨_, rfl, _, rfl, ly, _, _, _, rfl, rfl, .inl (.inl hly0), atI_last _ _, dl, od, kvs, rfl, upd_same, fun le nle => lc_it (walk_items (d := dl) (o := od) (kvs := kvs)) (fun i H' => Same (upd H2 dl (.frz od (.dK kvs))) H' ∧ ∃ ys, H' le = some (.lst ys) ∧ Each (WyAt H') ys (endsOf t (D.take i))) ?_ ?_ ?_ ?_⟩
        · exact ⟨same_new nle, [], upd_same, Each.nil⟩
        · rintro i H' _ ⟨sm, _⟩
          exact sm _ _ upd_same
        · rintro i v H3 H3' hi ⟨sm, ys, hy, hE⟩ ⟨b0, v0, v1, rfl, nb0, rfl, e0, e1⟩
          dsimp only at e0 e1
          obtain ⟨p, hp, rfl, hw⟩ := en_get hd20 e0 e1
          have s2 := sm.trans (same_new (o := .tup [.int (p.1 : Nat), v1]) nb0)
          have hy2 := same_new (o := .tup [.int (p.1 : Nat), v1]) nb0 _ _ hy
          have hE2 := hE.imp fun _ _ z => WyAt.keep (TupK.new (o := .tup [.int (p.1 : Nat), v1]) nb0) z
          have hT : (upd H3 b0 (.tup [.int (p.1 : Nat), v1])) b0 = some (.tup [.int (p.1 : Nat), v1]) := upd_same
          generalize upd H3 b0 (.tup [.int (p.1 : Nat), v1]) = H3 at s2 hy2 hE2 hT
          refine ⟨b0, _, rfl, .of hT, rfl, _, _, rfl, _, _, rfl, rfl, rfl, ?_⟩
          refine ⟨_, rfl, _, rfl, _, _, rfl, rfl, _, rfl, rfl, _, rfl, ?_⟩
          refine ib (c' := t.done p.1) ?_ (fun c2 => ?_) (fun c2 => ?_)
          · show decide (V.int (Builtin.bitAnd (p.1 : Int) (t.goal : Int)) = V.int (t.goal : Int)) = _
            rw [band_nat, v_eq, land_comm]
            rfl
          · have kE : TupK H3 (upd H3 le (.lst (ys ++ [v1]))) := TupK.at hy2 (fun xs z => by cases z)
            refine ⟨_, rfl, ys, hy2, ?_, fun b o e => ?_, _, upd_same, ?_⟩
            · rw [hE2.len]
              have := ends_len t (D.take i)
              rw [List.length_take] at this
              show (endsOf t (D.take i)).length < 2 ^ 24
              omega
            · rw [upd_ne (ne_of_none e nle)]
              exact s2 _ _ e
            · rw [ends_more hp, if_pos c2]
              exact (hE2.imp fun _ _ z => z.keep kE).snoc ((hw.keep (TupK.same s2)).keep kE)
          · refine ⟨s2, ys, hy2, ?_⟩
            rw [ends_more hp, c2, if_neg Bool.false_ne_true, List.append_nil]
            exact hE2
        rintro H3 ⟨sm3, ys, hy, hE⟩
        rw [hkl, List.take_length] at hE
        have hfz := sm3 dl _ upd_same
        refine ⟨hfz, ?_⟩
        have kU : TupK H3 (upd H3 dl (.dK kvs)) := TupK.at hfz (fun xs z => by cases z)
        have sU := unlock_same hd1 sm3
        have hled : le ≠ dl := fun z => by
          rw [z, upd_same] at nle
          cases nle
        have hy4 : (upd H3 dl (.dK kvs)) le = some (.lst ys) := by rw [upd_ne hled]; exact hy
        have hE4 := hE.imp fun _ _ z => WyAt.keep kU z
        generalize upd H3 dl (.dK kvs) = H5 at sU hy4 hE4
        have S8 := S7.trans sU
        have s15 := sm2.trans sU
        have hyl := hE4.len
        refine ⟨_, rfl, le, _, rfl, .inl (.inl (.inl hy4)), _, _, rfl, rfl, _, rfl, ?_⟩
        refine ib (c' := decide (0 < (endsOf t D).length)) (decide_eq_decide.mpr (by omega)) (fun c2 => ?_) (fun c2 => ?_)
        · have c2 := of_decide_eq_true c2
          have hdf : ∀ x ∈ endsOf t D, x.d = f := fun x hx => by
            obtain ⟨p, hp, _, rfl⟩ := mem_ends.mp hx
            exact (hDo.sound p hp).2.1
          -- best = min(ends)
          refine ⟨_, rfl, le, ys, (endsOf t D).map wD, rfl, .inl (.inl hy4), dpAll_of (fun v x z => z.dp) hE4, (by rw [wD_map]; exact PySem.W.alikeAll_datum _), (by rw [wD_map]; exact Nat.le_trans (PySem.W.depthAll_map _) (by decide)), (by rw [List.length_map]; exact c2), wD_trans hdf, fun i v dv hv hdv hmin => ?_⟩
          obtain ⟨x, hx, hxv⟩ := hE4.get hv
          rw [List.getElem?_map, hx] at hdv
          cases hdv
          have hxm := List.mem_of_getElem? hx
          obtain ⟨p, hp, hpd, rfl⟩ := mem_ends.mp hxm
          have hbest : Pn12.nearest t rest s0 = some p.2 := Best.unique (nearest_best hW rest hs0) (best_found hDo ny hp hpd fun r hr hrd => by
            have hrm : r.2 ∈ endsOf t D := mem_ends.mpr ⟨r, hr, hrd, rfl⟩
            have := hmin _ (List.mem_map_of_mem hrm)
            unfold wD at this
            rw [wy_lt (by rw [hdf _ hrm, hdf _ hxm])] at this
            exact this)
          obtain ⟨wt, w2, rfl, hw1, hw2⟩ := hxv
          refine ⟨_, rfl, _, rfl, wt, _, 0, _, rfl, rfl, .of hw1, atI_nat (j := 0) rfl, _, rfl, wt, _, 2, _, rfl, rfl, .of hw1, atI_nat (j := 2) rfl, (by show 3 ≤ sizeLine; decide), fun r nr => ?_⟩
          have kr := same_new (o := .tup [.int (f : Int), .int (p.2.c : Int), .ref w2]) nr
          obtain ⟨z1, z2, _⟩ := hDo.sound p hp
          have hlen := z1.len
          refine q2 p.2 _ r w2 hbest (by omega) (S8.trans kr) ?_ (kr _ _ hw2)
          rw [hdf _ hxm]
          exact upd_same
        · have c2 := of_decide_eq_false c2
          have hnil : endsOf t D = [] := List.eq_nil_of_length_eq_zero (by omega)
          have hny := not_yet_next hDo ny fun p hp => by
            cases e : t.done p.1 with
            | false => rfl
            | true =>
              have : p.2 ∈ endsOf t D := mem_ends.mpr ⟨p, hp, e, rfl⟩
              rw [hnil] at this
              cases this
          -- found = one_farther(acts, layer)
          have far : FarIn A H5 la ly xs ds t rest s0 f := ⟨S8 _ _ hla, ha.mono (fun x a z => z.same S8), s15 _ _ hly, hdl, hW, hs0, h5, h8, by omega, fun j a e => by
            obtain ⟨_, D', h2, h3⟩ := hdics j a e
            exact ⟨D', h2.keep (TupK.same s15) (fun o z => s15 _ _ z), h3⟩⟩
          refine ⟨_, rfl, _, rfl, la, ly, xs, ds, t, rest, s0, f, rfl, far, fun H6 lf' fs' s6 nlf' hlf' hfl' hfs' => ?_⟩
          have s16 := s15.trans s6
          have S9 := S8.trans s6
          refine ⟨_, rfl, _, _, rfl, rfl, ?_⟩
          refine ⟨⟨f + 1, lf', fs', _, _, _, _, _, _, _, rfl, S9, ⟨S9 _ _ hla, ha.mono (fun x a z => z.same S9), S9 _ _ hlr, hrest, hlf', s16 _ _ (hbut _ _ L.hlp (L.out L.hlp (fun kp z => by cases z))), hfl', hpl, hpn, hW, hs0, h5, by omega, hfs', fun j a e => ?_⟩, hny⟩, ?_⟩
          · obtain ⟨S, h2, h3⟩ := hpas j a e
            exact ⟨S, h2.keep (fun o z => s16 _ _ z), h3⟩
          · show 2 ^ t.facts + rest.length + 1 - ((f : Int) + 1).toNat < 2 ^ t.facts + rest.length + 1 - (f : Int).toNat
            omega
    · rintro σ H Q Q' hq ⟨c, e1, z⟩
      exact ⟨c, e1, hq _ _ z⟩
end
end Md

/-! near, mend. -/
namespace Md
open PySem PySem.Spec PyProof.Rows L2
section
variable {P : Program} {w : World} {K : PySem.W.Frag} {mg : Str → Option Value} {base : Heap} {A : Ad}
def nearAns (m : Pn12.House) : Pn12.Ans := match Pn12.nearest m.task m.rest m.now with
  | none => Pn12.ok (-6)
  | some w => ⟨(w.d : Nat), w.c :: w.l⟩
def spNA (A : Ad) : Sp := fun vs H Q _ => ∃ (N : Addr → Prop) (h la l : Addr) (m : Pn12.House) (ns : List Nat), vs = [.ref h, .ref l] ∧ Given A N H h la l m ns ∧
  ∀ (H' : Hp) (p : Addr), Same H H' → H p = none → H' p = some (.lst ((Pn12Neutral.out (nearAns m)).map V.int)) → (∀ w, Pn12.nearest m.task m.rest m.now = some w → w.l.length ≤ 5000000) → Q (.ref p) H'
theorem near_fn (T : Txt K mg A) : ∃ fd ps, FnOk P w K mg base CX0 5 A.a_answer_near fd ps (spNA A) ∧ Binds K fd ps [] := by
  have c_nearest_plan : C8.Cal P w K mg base 4 "nearest_plan" (spNear A) [] := ok_nearest_plan T
  obtain ⟨fd, F, B, _⟩ := T.fn_answer_near
  refine ⟨fd, _, F.ok sc_answer_near (fun vs H Q E h => ?_) (fun cdv A' outer s H vs Q E hr h => ?_), B⟩
  · obtain ⟨N, h, la, l, m, ns, rfl, _⟩ := h
    rfl
  · obtain ⟨N, h, la, l, m, ns, rfl, gv, q⟩ := h
    refine ⟨_, (pss_cons (ps_set (i := 2) sc_answer_near.nd rfl (Or.inl rfl) (C8.pe_c c_nearest_plan hr (by decide) (by rfl) (pa_cons (pe_fld (pv 0) rfl) (pa_cons (pe_fld (pv 0) rfl) (pa_cons (pe_fld (pv 0) rfl) (pa_cons (pe_fld (pv 0) rfl) pa_nil))))))
      (pss_cons (ps_if (pt_cmpR op_isN (pv 2) pe_non (nomark _))
      (pss_one (ps_ret (pe_lst (pa_cons (C8.pe_gc (by rfl) T.g_NO_PLAN) pa_nil))))
      pss_nil)
      (pss_one (ps_ret (pe_op op_cat (pe_lst (pa_cons (pe_ix ix_tup (pv 2) pe_int (fun _ _ => rfl)) (pa_cons (pe_ix ix_tup (pv 2) pe_int (fun _ _ => rfl)) pa_nil))) (pe_callTy call_list_of (by rfl) T.n_list (by decide +kernel) (pa_cons (pe_ix ix_tup (pv 2) pe_int (fun _ _ => rfl)) pa_nil))))))), ?_⟩
    obtain ⟨dx, lr, ld, xs, h1, h2, h3, h4, h5, h6, h7, h8, h9⟩ := gv.house
    have hsz := gv.size
    unfold nearAns at q
    refine ⟨_, rfl, h, _, dx, _, _, rfl, h1, T.cl_House, T.na_House_acts, hF_acts, _, rfl, h, _, dx, _, _, rfl, h1, T.cl_House, T.na_House_rest, hF_rest, _, rfl, h, _, dx, _, _, rfl, h1, T.cl_House, T.na_House_state, hF_state, _, rfl, h, _, dx, _, _, rfl, h1, T.cl_House, T.na_House_wanted, hF_wanted, la, lr, xs, m.task, m.rest, m.now, rfl, h2, h3, h4, gv.good.rest, gv.good.wf, gv.good.now, gv.good.facts.2, gv.good.acts, by omega, fun hf H' sm => ?_, fun w H' p p2 hf hl sm hp hp2 => ?_⟩
    · rw [hf] at q
      refine ⟨_, rfl, rfl, _, rfl, itrue rfl ?_⟩
      refine ⟨(by show 1 ≤ sizeLine; decide), fun r nr => ?_⟩
      exact q _ r (sm.trans (same_new nr)) (sm.free nr) upd_same (fun w z => by cases z)
    · rw [hf] at q
      refine ⟨_, rfl, rfl, _, rfl, ifalse rfl ?_⟩
      refine ⟨_, rfl, p, _, 0, _, rfl, rfl, .of hp, atI_nat (j := 0) rfl, _, rfl, p, _, 1, _, rfl, rfl, .of hp, atI_nat (j := 1) rfl, (by show 2 ≤ sizeLine; decide), fun r nr => ?_⟩
      have k1 := same_new (o := .lst [V.int (w.d : Nat), V.int (w.c : Nat)]) nr
      refine ⟨_, rfl, p, _, 2, _, rfl, rfl, .of (k1 _ _ hp), atI_nat (j := 2) rfl, p2, _, rfl, .inr (.of (k1 _ _ hp2)), fun u nu => ?_⟩
      have k2 := same_new (o := .lst (nums w.l)) nu
      refine ⟨r, u, _, _, rfl, rfl, k2 _ _ upd_same, upd_same, ?_, fun z nz => ?_⟩
      · rw [nums_len]
        show 2 + w.l.length ≤ 2 ^ 24
        omega
      · have s3 := sm.trans (k1.trans k2)
        refine q _ z (s3.trans (same_new nz)) (s3.free nz) ?_ (fun w' e => by cases e; exact hl)
        rw [upd_same]
        unfold Pn12Neutral.out
        simp [nums]
theorem c_near (T : Txt K mg A) : C8.Cal P w K mg base 5 "answer_near" (spNA A) [] := by
  obtain ⟨fd, ps, F, B⟩ := near_fn (P := P) (w := w) (base := base) T
  exact ⟨_, fd, ps, [], F, T.g_answer_near, T.kp_answer_near, B, .nil⟩
theorem near_step (m : Pn12.House) : Pn12.step m .near = (m, nearAns m) := rfl
theorem ok_answer_near (T : Txt K mg A) : C8.CalAt P w K mg base 5 A.a_answer_near (spCall A (bNone .near)) := by
  obtain ⟨fd, ps, F, B⟩ := near_fn (P := P) (w := w) (base := base) T
  refine ⟨fd, ps, F.imp fun vs H Q E h => ?_, T.kp_answer_near, B⟩
  obtain ⟨N, h, la, l, m, ns, c, rfl, gv, hb, q⟩ := h
  obtain rfl := bNone_inv hb
  rw [near_step] at q
  exact ⟨N, h, la, l, m, ns, rfl, gv, fun H' p sm np hp _ => q H' la p (gv.house.same sm) (.inl rfl) hp fun b o e _ _ => ⟨sm _ _ e, ne_of_none e np⟩⟩
theorem ok_answer_mend (T : Txt K mg A) : C8.CalAt P w K mg base 6 A.a_answer_mend (spCall A (bNone .mend)) := by
  have c_answer_near : C8.Cal P w K mg base 5 "answer_near" (spNA A) [] := c_near T
  obtain ⟨fd, F, B, _⟩ := T.fn_answer_mend
  refine ⟨fd, _, F.ok sc_answer_mend (fun vs H Q E h => ?_) (fun cdv A' outer s H vs Q E hr h => ?_), T.kp_answer_mend, B⟩
  · obtain ⟨N, h, la, l, m, ns, c, rfl, _⟩ := h
    rfl
  · obtain ⟨N, h, la, l, m, ns, c, rfl, gv, hb, q⟩ := h
    refine ⟨_, (pss_cons (ps_set (i := 2) sc_answer_mend.nd rfl (Or.inl rfl) (C8.pe_c c_answer_near hr (by decide) (by rfl) (pa_cons (pv 0) (pa_cons (pv 1) pa_nil))))
      (pss_cons (ps_if (pt_cmpR op_ne (pe_ix ix_list (pv 2) pe_int (fun _ _ => rfl)) (C8.pe_gc (by rfl) T.g_NO_PLAN) (nomark _))
      (pss_one (ps_fld (pv 0) (pe_slice sl_list (pv 2) (po_some pe_int) po_none) rfl))
      pss_nil)
      (pss_one (ps_ret (pv 2))))), ?_⟩
    obtain rfl := bNone_inv hb
    obtain ⟨dx, lr, ld, xs, h1, h2, h3, h4, h5, h6, h7, h8, h9⟩ := gv.house
    refine ⟨_, rfl, _, rfl, N, h, la, l, m, ns, rfl, gv, fun H' p sm np hp hl => ?_⟩
    cases e : Pn12.nearest m.task m.rest m.now with
    | none =>
      have e1 : nearAns m = Pn12.ok (-6) := by
        unfold nearAns
        rw [e]
      have e2 : Pn12.step m .mend = (m, Pn12.ok (-6)) := by
        show (match Pn12.nearest m.task m.rest m.now with | none => (m, Pn12.ok (-6)) | some w => ({ m with rest := w.l }, (⟨(w.d : Nat), w.c :: w.l⟩ : Pn12.Ans))) = _
        rw [e]
      rw [e1] at hp
      rw [e2] at q
      refine ⟨_, rfl, p, _, 0, _, rfl, rfl, .inl (.inl hp), atI_nat (j := 0) rfl, rfl, _, rfl, ifalse rfl ?_⟩
      exact ⟨_, rfl, q H' la p (gv.house.same sm) (.inl rfl) hp fun b o e _ _ => ⟨sm _ _ e, ne_of_none e np⟩⟩
    | some w =>
      have e1 : nearAns m = ⟨(w.d : Nat), w.c :: w.l⟩ := by
        unfold nearAns
        rw [e]
      have e2 : Pn12.step m .mend = ({ m with rest := w.l }, ⟨(w.d : Nat), w.c :: w.l⟩) := by
        show (match Pn12.nearest m.task m.rest m.now with | none => (m, Pn12.ok (-6)) | some w => ({ m with rest := w.l }, (⟨(w.d : Nat), w.c :: w.l⟩ : Pn12.Ans))) = _
        rw [e]
      rw [e1] at hp
      rw [e2] at q
      refine ⟨_, rfl, p, _, 0, _, rfl, rfl, .inl (.inl hp), atI_nat (j := 0) rfl, rfl, _, rfl, ?_⟩
      refine ib (c' := true) ?_ (fun _ => ?_) (fun z => by cases z)
      · show (!decide (V.int ((w.d : Nat) : Int) = V.int (-6))) = true
        rw [decide_eq_false (fun z => by injection z with z; omega)]
        rfl
      refine ⟨_, rfl, _, rfl, p, _, rfl, .inl (.inl hp), fun c nc => ?_⟩
      have ecut : cutV ((Pn12Neutral.out (⟨(w.d : Nat), w.c :: w.l⟩ : Pn12.Ans)).map V.int) (some (2 : Int)) none = nums w.l := by
        rw [show (2 : Int) = ((2 : Nat) : Int) from rfl, cut_from]
        unfold Pn12Neutral.out nums
        simp
      rw [ecut]
      have k1 := same_new (o := .lst (nums w.l)) nc
      have s1 := sm.trans k1
      have hc1 : (upd H' c (.lst (nums w.l))) c = some (.lst (nums w.l)) := upd_same
      have hp1 := k1 _ _ hp
      have hnc : H c = none := sm.free nc
      have nla : la ≠ c := fun z => by rw [← z, h2] at hnc; cases hnc
      generalize upd H' c (.lst (nums w.l)) = H2 at k1 s1 hc1 hp1
      refine ⟨_, rfl, h, _, dx, _, rfl, s1 _ _ h1, T.cl_House, T.na_House_rest, (by show 6 < 1000; decide), ?_⟩
      obtain ⟨hh', k3, h1'⟩ := house_set (m' := { m with rest := w.l }) gv.house h1 h2 h3 h4 h5 h6 h7 (H1 := H2) s1 (f := "rest") (v := V.ref c) (lr' := c) (ld' := ld) rfl rfl hc1 (s1 _ _ h5) nla h7 (gv.new _ hnc) h9
      refine ⟨_, rfl, q _ la p hh' (.inl rfl) ?_ fun b o e hb _ => ⟨k3 b o e hb, ne_of_none e np⟩⟩
      rw [upd_ne (ne_of hp1 (s1 _ _ h1) (by intro z; cases z))]
      exact hp1
end
end Md

/-! The twelve entries. -/
namespace Md
open PySem PySem.Spec PyProof.Rows L2
section
variable {P : Program} {w : World} {K : PySem.W.Frag} {mg : Str → Option Value} {base : Heap} {A : Ad}
theorem call_as {k : Nat} {f : Addr} {b b' : List Nat → Option Pn12.Call} (c : C8.CalAt P w K mg base k f (spCall A b)) (hk : k ≤ 9) (h : ∀ ns x, b' ns = some x → b ns = some x) : C8.CalAt P w K mg base 9 f (spCall A b') := by
  obtain ⟨fd, ps, F, kp, B⟩ := c.ex
  refine ⟨fd, ps, (F.mono hk).imp fun vs H Q E z => ?_, kp, B⟩
  obtain ⟨N, h', la, l, m, ns, x, e, gv, hb, q⟩ := z
  exact ⟨N, h', la, l, m, ns, x, e, gv, h ns x hb, q⟩
theorem ent_all (T : Txt K mg A) : ∀ p, p < 12 → Entry P w K mg base A [.ref A.a_CALLS_0, .ref A.a_CALLS_1, .ref A.a_CALLS_2, .ref A.a_CALLS_3, .ref A.a_CALLS_4, .ref A.a_CALLS_5, .ref A.a_CALLS_6, .ref A.a_CALLS_7, .ref A.a_CALLS_8, .ref A.a_CALLS_9, .ref A.a_CALLS_10, .ref A.a_CALLS_11] p
  | 0, _ => ⟨_, _, rfl, T.sq_CALLS_0, call_as (ok_answer_begins T) (by decide) fun ns x h => by
      unfold bind at h
      split at h <;> first | (cases h; rfl) | (rename_i e; cases e) | cases h | contradiction⟩
  | 1, _ => ⟨_, _, rfl, T.sq_CALLS_1, call_as (ok_answer_act T) (by decide) fun ns x h => h⟩
  | 2, _ => ⟨_, _, rfl, T.sq_CALLS_2, call_as (ok_answer_plan T) (by decide) fun ns x h => h⟩
  | 3, _ => ⟨_, _, rfl, T.sq_CALLS_3, call_as (ok_answer_goes T) (by decide) fun ns x h => by
      unfold bind at h
      split at h <;> first | (cases h; rfl) | (rename_i e; cases e) | cases h | contradiction⟩
  | 4, _ => ⟨_, _, rfl, T.sq_CALLS_4, call_as (ok_answer_happens T) (by decide) fun ns x h => by
      unfold bind at h
      split at h <;> first | (cases h; rfl) | (rename_i e; cases e) | cases h | contradiction⟩
  | 5, _ => ⟨_, _, rfl, T.sq_CALLS_5, call_as (ok_answer_wants T) (by decide) fun ns x h => by
      unfold bind at h
      split at h <;> first | (cases h; rfl) | (rename_i e; cases e) | cases h | contradiction⟩
  | 6, _ => ⟨_, _, rfl, T.sq_CALLS_6, call_as (ok_answer_still T) (by decide) fun ns x h => by
      unfold bind at h
      split at h <;> first | (cases h; rfl) | (rename_i e; cases e) | cases h | contradiction⟩
  | 7, _ => ⟨_, _, rfl, T.sq_CALLS_7, call_as (ok_answer_needs T) (by decide) fun ns x h => by
      unfold bind at h
      split at h <;> first | (cases h; rfl) | (rename_i e; cases e) | cases h | contradiction⟩
  | 8, _ => ⟨_, _, rfl, T.sq_CALLS_8, call_as (ok_answer_near T) (by decide) fun ns x h => by
      unfold bind at h
      split at h <;> first | (cases h; rfl) | (rename_i e; cases e) | cases h | contradiction⟩
  | 9, _ => ⟨_, _, rfl, T.sq_CALLS_9, call_as (ok_answer_mend T) (by decide) fun ns x h => by
      unfold bind at h
      split at h <;> first | (cases h; rfl) | (rename_i e; cases e) | cases h | contradiction⟩
  | 10, _ => ⟨_, _, rfl, T.sq_CALLS_10, call_as (ok_answer_fresh T) (by decide) fun ns x h => by
      unfold bind at h
      split at h <;> first | (cases h; rfl) | (rename_i e; cases e) | cases h | contradiction⟩
  | 11, _ => ⟨_, _, rfl, T.sq_CALLS_11, call_as (ok_answer_did T) (by decide) fun ns x h => by
      unfold bind at h
      split at h <;> first | (cases h; rfl) | (rename_i e; cases e) | cases h | contradiction⟩
  | n + 12, h => by omega
end
end Md

namespace Md
open PySem PySem.Spec PyProof.Rows L2
theorem all_mk {K : PySem.W.Frag} {mg : Str → Option Value} {A : Ad} (T : Txt K mg A) {fa : Addr} (hf : mg "answers" = some (.ref fa)) {P : Program} {w : World} : ∃ fd : FuncData, (∀ (s : Shared) (us : List Value), us.length = (["calls"] : List Str).length → BindsTo s fd ⟨us, []⟩ ((["calls"] : List Str).zip us)) ∧ ∀ base : Heap, K.In base → base.Ns mainGlobals mg → FnOk P w K mg base CX0 10 fa fd ["calls"] (spAns K) := by
  have e := hf.symm.trans T.g_answers
  cases e
  obtain ⟨fd, F, _, B⟩ := T.fn_answers
  exact ⟨fd, B, fun base _ _ => ok_answers T T.sq_CALLS (ent_all T) F⟩
end Md
open PySem PySem.W PyProof.Rows
set_option maxRecDepth 100000 in
set_option maxHeartbeats 8000000 in
theorem PySem.Challenge.cw_mendedplans_s01_answers_holds : PySem.Challenge.rw_mendedplans_s01_answers.Holds := by
  w_on; k_headS; (case hw => exact ⟨[.list [.int 3, .int 0]], by decide +kernel, by decide +kernel⟩)
  k_fillS
  refine L2.walk_specK (r := PySem.Challenge.rw_mendedplans_s01_answers) (k := 10) (CX := L2.CX0) (ps := ["calls"]) (sp := Md.spAns) (by decide +kernel) rfl rfl ⟨rfl, by decide, by decide⟩ (fun w h Y => PySem.W.kIn_of Y) ?F ?S (fun _ _ _ _ z => z)
  case F =>
    intro w mg fa h Y KX G hmg
    refine' Md.all_mk (Md.txt_mk KX G ?gc_Act ?gc_House ?gd_Act_init ?if_Act_init ?lk_Act_init ?co_Act_init ?ke_Act_init ?gd_Act_may_be_done ?if_Act_may_be_done ?lk_Act_may_be_done ?co_Act_may_be_done ?ke_Act_may_be_done ?gd_Act_state_behind ?if_Act_state_behind ?lk_Act_state_behind ?co_Act_state_behind ?ke_Act_state_behind ?gd_states_along ?lk_states_along ?co_states_along ?ke_states_along ?gd_needs_of ?lk_needs_of ?co_needs_of ?ke_needs_of ?gd_cheapest_plan ?lk_cheapest_plan ?co_cheapest_plan ?ke_cheapest_plan ?gd_dearer_ways ?lk_dearer_ways ?co_dearer_ways ?ke_dearer_ways ?gd_nearest_plan ?lk_nearest_plan ?co_nearest_plan ?ke_nearest_plan ?gd_layer_of ?lk_layer_of ?co_layer_of ?ke_layer_of ?gd_best_ways ?lk_best_ways ?co_best_ways ?ke_best_ways ?gd_one_farther ?lk_one_farther ?co_one_farther ?ke_one_farther ?gd_ways_on ?lk_ways_on ?co_ways_on ?ke_ways_on ?gd_all_there ?lk_all_there ?co_all_there ?ke_all_there ?gd_House_init ?if_House_init ?lk_House_init ?co_House_init ?ke_House_init ?gd_House_set_anew ?if_House_set_anew ?lk_House_set_anew ?co_House_set_anew ?ke_House_set_anew ?gd_House_states_of ?if_House_states_of ?lk_House_states_of ?co_House_states_of ?ke_House_states_of ?gd_House_rest_does ?if_House_rest_does ?lk_House_rest_does ?co_House_rest_does ?ke_House_rest_does ?gd_answer_begins ?lk_answer_begins ?co_answer_begins ?ke_answer_begins ?gd_is_act ?lk_is_act ?co_is_act ?ke_is_act ?gd_answer_act ?lk_answer_act ?co_answer_act ?ke_answer_act ?gd_answer_plan ?lk_answer_plan ?co_answer_plan ?ke_answer_plan ?gd_answer_goes ?lk_answer_goes ?co_answer_goes ?ke_answer_goes ?gd_answer_happens ?lk_answer_happens ?co_answer_happens ?ke_answer_happens ?gd_answer_wants ?lk_answer_wants ?co_answer_wants ?ke_answer_wants ?gd_answer_still ?lk_answer_still ?co_answer_still ?ke_answer_still ?gd_answer_needs ?lk_answer_needs ?co_answer_needs ?ke_answer_needs ?gd_answer_near ?lk_answer_near ?co_answer_near ?ke_answer_near ?gd_answer_mend ?lk_answer_mend ?co_answer_mend ?ke_answer_mend ?gd_answer_fresh ?lk_answer_fresh ?co_answer_fresh ?ke_answer_fresh ?gd_answer_did ?lk_answer_did ?co_answer_did ?ke_answer_did ?gd_answers ?lk_answers ?co_answers ?ke_answers ?pg_Act ?hd_Act ?po_Act ?sa_Act ?mk_Act ?kc_Act ?na_Act_needed ?na_Act_barred ?na_Act_brought ?na_Act_taken ?na_Act_cost ?pg_House ?hd_House ?po_House ?sa_House ?mk_House ?kc_House ?na_House_facts ?na_House_state ?na_House_wanted ?na_House_acts ?na_House_rest ?na_House_done ?gk_WRONG ?gk_NO_PLAN ?gk_FULL ?gk_MOST_FACTS ?gk_MOST_ACTS ?gk_MOST_PLANNED ?gk_MOST_COST ?gk_ROW_OF_ACT ?gk_CALLS ?tu_CALLS ?tu_CALLS_0 ?tu_CALLS_1 ?tu_CALLS_2 ?tu_CALLS_3 ?tu_CALLS_4 ?tu_CALLS_5 ?tu_CALLS_6 ?tu_CALLS_7 ?tu_CALLS_8 ?tu_CALLS_9 ?tu_CALLS_10 ?tu_CALLS_11 ?nb_all ?nb_any ?nb_enumerate ?nb_len ?nb_list ?nb_min ?nb_range ?nb_reversed ?nb_sum) hmg
    case gc_Act => k_is
    case gc_House => k_is
    case gd_Act_init => k_is
    case if_Act_init => k_is
    case lk_Act_init => k_is
    case co_Act_init => k_is
    case ke_Act_init => k_is
    case gd_Act_may_be_done => k_is
    case if_Act_may_be_done => k_is
    case lk_Act_may_be_done => k_is
    case co_Act_may_be_done => k_is
    case ke_Act_may_be_done => k_is
    case gd_Act_state_behind => k_is
    case if_Act_state_behind => k_is
    case lk_Act_state_behind => k_is
    case co_Act_state_behind => k_is
    case ke_Act_state_behind => k_is
    case gd_states_along => k_is
    case lk_states_along => k_is
    case co_states_along => k_is
    case ke_states_along => k_is
    case gd_needs_of => k_is
    case lk_needs_of => k_is
    case co_needs_of => k_is
    case ke_needs_of => k_is
    case gd_cheapest_plan => k_is
    case lk_cheapest_plan => k_is
    case co_cheapest_plan => k_is
    case ke_cheapest_plan => k_is
    case gd_dearer_ways => k_is
    case lk_dearer_ways => k_is
    case co_dearer_ways => k_is
    case ke_dearer_ways => k_is
    case gd_nearest_plan => k_is
    case lk_nearest_plan => k_is
    case co_nearest_plan => k_is
    case ke_nearest_plan => k_is
    case gd_layer_of => k_is
    case lk_layer_of => k_is
    case co_layer_of => k_is
    case ke_layer_of => k_is
    case gd_best_ways => k_is
    case lk_best_ways => k_is
    case co_best_ways => k_is
    case ke_best_ways => k_is
    case gd_one_farther => k_is
    case lk_one_farther => k_is
    case co_one_farther => k_is
    case ke_one_farther => k_is
    case gd_ways_on => k_is
    case lk_ways_on => k_is
    case co_ways_on => k_is
    case ke_ways_on => k_is
    case gd_all_there => k_is
    case lk_all_there => k_is
    case co_all_there => k_is
    case ke_all_there => k_is
    case gd_House_init => k_is
    case if_House_init => k_is
    case lk_House_init => k_is
    case co_House_init => k_is
    case ke_House_init => k_is
    case gd_House_set_anew => k_is
    case if_House_set_anew => k_is
    case lk_House_set_anew => k_is
    case co_House_set_anew => k_is
    case ke_House_set_anew => k_is
    case gd_House_states_of => k_is
    case if_House_states_of => k_is
    case lk_House_states_of => k_is
    case co_House_states_of => k_is
    case ke_House_states_of => k_is
    case gd_House_rest_does => k_is
    case if_House_rest_does => k_is
    case lk_House_rest_does => k_is
    case co_House_rest_does => k_is
    case ke_House_rest_does => k_is
    case gd_answer_begins => k_is
    case lk_answer_begins => k_is
    case co_answer_begins => k_is
    case ke_answer_begins => k_is
    case gd_is_act => k_is
    case lk_is_act => k_is
    case co_is_act => k_is
    case ke_is_act => k_is
    case gd_answer_act => k_is
    case lk_answer_act => k_is
    case co_answer_act => k_is
    case ke_answer_act => k_is
    case gd_answer_plan => k_is
    case lk_answer_plan => k_is
    case co_answer_plan => k_is
    case ke_answer_plan => k_is
    case gd_answer_goes => k_is
    case lk_answer_goes => k_is
    case co_answer_goes => k_is
    case ke_answer_goes => k_is
    case gd_answer_happens => k_is
    case lk_answer_happens => k_is
    case co_answer_happens => k_is
    case ke_answer_happens => k_is
    case gd_answer_wants => k_is
    case lk_answer_wants => k_is
    case co_answer_wants => k_is
    case ke_answer_wants => k_is
    case gd_answer_still => k_is
    case lk_answer_still => k_is
    case co_answer_still => k_is
    case ke_answer_still => k_is
    case gd_answer_needs => k_is
    case lk_answer_needs => k_is
    case co_answer_needs => k_is
    case ke_answer_needs => k_is
    case gd_answer_near => k_is
    case lk_answer_near => k_is
    case co_answer_near => k_is
    case ke_answer_near => k_is
    case gd_answer_mend => k_is
    case lk_answer_mend => k_is
    case co_answer_mend => k_is
    case ke_answer_mend => k_is
    case gd_answer_fresh => k_is
    case lk_answer_fresh => k_is
    case co_answer_fresh => k_is
    case ke_answer_fresh => k_is
    case gd_answer_did => k_is
    case lk_answer_did => k_is
    case co_answer_did => k_is
    case ke_answer_did => k_is
    case gd_answers => k_is
    case lk_answers => k_is
    case co_answers => k_is
    case ke_answers => k_is
    case pg_Act => k_is
    case hd_Act => k_is
    case po_Act => k_is
    case sa_Act => k_is
    case mk_Act => k_is
    case kc_Act => k_is
    case na_Act_needed => k_is
    case na_Act_barred => k_is
    case na_Act_brought => k_is
    case na_Act_taken => k_is
    case na_Act_cost => k_is
    case pg_House => k_is
    case hd_House => k_is
    case po_House => k_is
    case sa_House => k_is
    case mk_House => k_is
    case kc_House => k_is
    case na_House_facts => k_is
    case na_House_state => k_is
    case na_House_wanted => k_is
    case na_House_acts => k_is
    case na_House_rest => k_is
    case na_House_done => k_is
    case gk_WRONG => k_is
    case gk_NO_PLAN => k_is
    case gk_FULL => k_is
    case gk_MOST_FACTS => k_is
    case gk_MOST_ACTS => k_is
    case gk_MOST_PLANNED => k_is
    case gk_MOST_COST => k_is
    case gk_ROW_OF_ACT => k_is
    case gk_CALLS => k_is
    case tu_CALLS => k_is
    case tu_CALLS_0 => k_is
    case tu_CALLS_1 => k_is
    case tu_CALLS_2 => k_is
    case tu_CALLS_3 => k_is
    case tu_CALLS_4 => k_is
    case tu_CALLS_5 => k_is
    case tu_CALLS_6 => k_is
    case tu_CALLS_7 => k_is
    case tu_CALLS_8 => k_is
    case tu_CALLS_9 => k_is
    case tu_CALLS_10 => k_is
    case tu_CALLS_11 => k_is
    case nb_all => k_is
    case nb_any => k_is
    case nb_enumerate => k_is
    case nb_len => k_is
    case nb_list => k_is
    case nb_min => k_is
    case nb_range => k_is
    case nb_reversed => k_is
    case nb_sum => k_is
  case S =>
    intro K H xs a hO hwi hask hx
    cases hx with
    | cons h1 h2 =>
      cases h2
      cases h1 with
      | lst hs ha =>
        have e := L2.ints_dw a.1 _ ha
        subst e
        have q : ((Codec.inLen 0 900 a.1 && a.1.all (Codec.inInt 0 4294967295)) && true) = true := hwi
        rw [Bool.and_eq_true, Bool.and_eq_true] at q
        have hnn : ∀ x ∈ a.1, 0 ≤ x := fun x hx => by
          have := List.all_eq_true.mp q.1.2 x hx
          unfold Codec.inInt at this
          simp at this
          exact this.1
        have ec := Md.cast_toNat a.1 hnn
        obtain ⟨cs, k1, k2, k3, _, k5⟩ := Md.ask_of hask
        refine ⟨_, a.1.map Int.toNat, cs, rfl, fun H' fz => ?_, ⟨a.1.length, by rw [ec]; exact k1⟩, k2, k3, fun H' p hp => ?_⟩
        · have e2 : Md.nums (a.1.map Int.toNat) = a.1.map L2.V.int := by
            have := congrArg (fun l : List Int => l.map L2.V.int) ec
            unfold Md.cast at this
            simpa [Md.nums, List.map_map, Function.comp] using this
          rw [e2]
          rcases hs with (hs | ⟨o, hs⟩) | hs
          · rcases hO _ with z | ⟨o, u, z⟩
            · rw [hs] at z
              cases z
            · rw [hs] at z
              cases z
          · exact .inl (.inr ⟨o, fz _ _ _ hs⟩)
          · exact .inr hs
        · refine .lst (L2.SqL.of hp) ?_
          rw [k5]
          exact L2.dw_ints _

