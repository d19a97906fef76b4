import PyProof.Rows.All
import Wide.All
import OpenK.AllK
import Wide.FinOn
import PyFlatLaws
import Open.SpecLaws
import KE.OsGo
import HandS.ForMost
import HandS.ForSpec
import HandS.TupLen
import HandS.DictTup
import KE.LtSeq
import KE.KDictCopyH
import HandS.Conv
import PyProof.P3Eq
import KE.DataMinKey
import HandS.SortKw
import KE.SortKeyHeap
import KE.DatumOrd
import HandS.MapSum
import HandS.CallLocal
import PySem.Challenge.RW_phraseways_s01_answers
namespace Pw
open Ut09
/-! Which way is first -/
def wayLt : Way → Way → Prop
  | [], [] => False
  | [], _ :: _ => True
  | _ :: _, [] => False
  | a :: w, b :: v => a.1 < b.1 ∨ (a.1 = b.1 ∧ (a.2 < b.2 ∨ (a.2 = b.2 ∧ wayLt w v)))
def stepLt (a b : Step) : Prop := a.1 < b.1 ∨ (a.1 = b.1 ∧ a.2 < b.2)
def noLater (c : Nat) (w : Way) (c' : Nat) (w' : Way) : Prop := c < c' ∨ (c = c' ∧ (w = w' ∨ wayLt w w'))
def fits (want : Option Sent) (t : Sent) : Prop := want = none ∨ want = some t
structure Good (l : List Phrase) : Prop where
  up : l.Pairwise (fun a b => a.number < b.number)
  src : ∀ x ∈ l, x.source ≠ []

theorem wayLt_irrefl : ∀ w : Way, ¬ wayLt w w
  | [] => fun h => h
  | a :: w => fun h => by
    rcases h with h | ⟨_, h | ⟨_, h⟩⟩
    · omega
    · omega
    · exact wayLt_irrefl w h
theorem wayLt_trans : ∀ {a b c : Way}, wayLt a b → wayLt b c → wayLt a c
  | [], [], _, h, _ => h.elim
  | [], _ :: _, [], _, h => h.elim
  | [], _ :: _, _ :: _, _, _ => trivial
  | _ :: _, [], _, h, _ => h.elim
  | _ :: _, _ :: _, [], _, h => h.elim
  | x :: a, y :: b, z :: c, h, g => by
    rcases h with h | ⟨e, h | ⟨e2, h⟩⟩ <;> rcases g with g | ⟨d, g | ⟨d2, g⟩⟩
    · exact Or.inl (by omega)
    · exact Or.inl (by omega)
    · exact Or.inl (by omega)
    · exact Or.inl (by omega)
    · exact Or.inr ⟨by omega, Or.inl (by omega)⟩
    · exact Or.inr ⟨by omega, Or.inl (by omega)⟩
    · exact Or.inl (by omega)
    · exact Or.inr ⟨by omega, Or.inl (by omega)⟩
    · exact Or.inr ⟨by omega, Or.inr ⟨by omega, wayLt_trans h g⟩⟩
theorem wayLt_total : ∀ (a b : Way), a = b ∨ wayLt a b ∨ wayLt b a
  | [], [] => Or.inl rfl
  | [], _ :: _ => Or.inr (Or.inl trivial)
  | _ :: _, [] => Or.inr (Or.inr trivial)
  | x :: a, y :: b => by
    rcases Nat.lt_trichotomy x.1 y.1 with h | h | h
    · exact Or.inr (Or.inl (Or.inl h))
    · rcases Nat.lt_trichotomy x.2 y.2 with g | g | g
      · exact Or.inr (Or.inl (Or.inr ⟨h, Or.inl g⟩))
      · rcases wayLt_total a b with r | r | r
        · left
          have : x = y := Prod.ext h g
          rw [this, r]
        · exact Or.inr (Or.inl (Or.inr ⟨h, Or.inr ⟨g, r⟩⟩))
        · exact Or.inr (Or.inr (Or.inr ⟨h.symm, Or.inr ⟨g.symm, r⟩⟩))
      · exact Or.inr (Or.inr (Or.inr ⟨h.symm, Or.inl g⟩))
    · exact Or.inr (Or.inr (Or.inl h))
theorem noLater_refl (c : Nat) (w : Way) : noLater c w c w := Or.inr ⟨rfl, Or.inl rfl⟩
theorem noLater_trans {c c' c'' : Nat} {w w' w'' : Way} (h : noLater c w c' w') (g : noLater c' w' c'' w'') : noLater c w c'' w'' := by
  rcases h with h | ⟨e, h⟩ <;> rcases g with g | ⟨d, g⟩
  · exact Or.inl (by omega)
  · exact Or.inl (by omega)
  · exact Or.inl (by omega)
  · refine Or.inr ⟨by omega, ?_⟩
    rcases h with rfl | h
    · exact g
    · rcases g with rfl | g
      · exact Or.inr h
      · exact Or.inr (wayLt_trans h g)
theorem noLater_anti {c c' : Nat} {w w' : Way} (h : noLater c w c' w') (g : noLater c' w' c w) : c = c' ∧ w = w' := by
  rcases h with h | ⟨e, h⟩ <;> rcases g with g | ⟨d, g⟩
  · omega
  · omega
  · omega
  · refine ⟨e, ?_⟩
    rcases h with h | h
    · exact h
    · rcases g with g | g
      · exact g.symm
      · exact (wayLt_irrefl _ (wayLt_trans h g)).elim
theorem noLater_total (c : Nat) (w : Way) (c' : Nat) (w' : Way) : noLater c w c' w' ∨ noLater c' w' c w := by
  rcases Nat.lt_trichotomy c c' with h | h | h
  · exact Or.inl (Or.inl h)
  · rcases wayLt_total w w' with g | g | g
    · exact Or.inl (Or.inr ⟨h, Or.inl g⟩)
    · exact Or.inl (Or.inr ⟨h, Or.inr g⟩)
    · exact Or.inr (Or.inr ⟨h.symm, Or.inr g⟩)
  · exact Or.inr (Or.inl h)
theorem wayLt_append : ∀ {a b : Way} (x y : Way), a.length = b.length → wayLt a b → wayLt (a ++ x) (b ++ y)
  | [], [], _, _, _, h => h.elim
  | [], _ :: _, _, _, e, _ => by cases e
  | _ :: _, [], _, _, e, _ => by cases e
  | u :: a, v :: b, x, y, e, h => by
    rcases h with h | ⟨e1, h | ⟨e2, h⟩⟩
    · exact Or.inl h
    · exact Or.inr ⟨e1, Or.inl h⟩
    · exact Or.inr ⟨e1, Or.inr ⟨e2, wayLt_append x y (Nat.succ.inj e) h⟩⟩

/-! The steps that may be next -/
theorem phraseOf_mem {l : List Phrase} {k : Nat} {x : Phrase} (h : phraseOf l k = some x) : x ∈ l ∧ x.number = k := by
  unfold phraseOf at h
  refine ⟨List.mem_of_find?_eq_some h, ?_⟩
  have := List.find?_some h
  simpa using this
theorem phraseOf_of {l : List Phrase} (g : l.Pairwise (fun a b => a.number < b.number)) {x : Phrase} (h : x ∈ l) : phraseOf l x.number = some x := by
  unfold phraseOf
  induction l with
  | nil => cases h
  | cons y l ih =>
    rw [List.pairwise_cons] at g
    rcases List.mem_cons.mp h with rfl | h
    · simp
    · have := g.1 x h
      rw [List.find?_cons]
      have e : (y.number == x.number) = false := by simp; omega
      rw [e]
      exact ih g.2 h
theorem may_lt {p : Prices} {s : Sent} {f : Free} {a i : Nat} {x : Phrase} (hs : x.source ≠ []) (h : may p s f a i x = true) : i < s.length := by
  unfold may at h
  rw [Bool.and_eq_true] at h
  have e := h.1
  rw [beq_iff_eq] at e
  rcases Nat.lt_or_ge i s.length with c | c
  · exact c
  · rw [List.drop_eq_nil_of_le c] at e
    simp at e
    exact (hs e).elim
theorem mem_nexts {p : Prices} {l : List Phrase} {s : Sent} {f : Free} {a : Nat} {y : Nat × Phrase} : y ∈ nexts p l s f a ↔ y.1 < s.length ∧ y.2 ∈ l ∧ may p s f a y.1 y.2 = true := by
  unfold nexts
  simp only [List.mem_flatMap, List.mem_range, List.mem_map, List.mem_filter]
  constructor
  · rintro ⟨i, hi, x, ⟨hx, hm⟩, rfl⟩
    exact ⟨hi, hx, hm⟩
  · rintro ⟨hi, hx, hm⟩
    exact ⟨y.1, hi, y.2, ⟨hx, hm⟩, rfl⟩
theorem nexts_up {p : Prices} {l : List Phrase} {s : Sent} {f : Free} {a : Nat} (g : l.Pairwise (fun a b => a.number < b.number)) : (nexts p l s f a).Pairwise fun y z => stepLt (y.1, y.2.number) (z.1, z.2.number) := by
  unfold nexts
  rw [List.pairwise_flatMap]
  constructor
  · intro i _
    rw [List.pairwise_map]
    refine (g.filter _).imp ?_
    intro u v h
    exact Or.inr ⟨rfl, h⟩
  · refine List.pairwise_lt_range.imp ?_
    intro i j h x hx y hy
    rw [List.mem_map] at hx hy
    obtain ⟨u, _, rfl⟩ := hx
    obtain ⟨v, _, rfl⟩ := hy
    exact Or.inl h

/-! A way's steps take each a word at least -/
def freeCount (f : Free) : Nat := f.countP (fun b => b)
theorem use_count {f : Free} {i n : Nat} (hn : 0 < n) (h : freeAt f i n = true) : freeCount (use f i n) < freeCount f := by
  have h0 : f.getD i false = true := by
    unfold freeAt at h
    rw [List.all_eq_true] at h
    simpa using h 0 (List.mem_range.mpr hn)
  have key : ∀ (f : Free) (o : Nat), freeCount ((f.zipIdx o).map fun x => if i ≤ x.2 ∧ x.2 < i + n then false else x.1) ≤ freeCount f ∧ (∀ j, o + j = i → f.getD j false = true → freeCount ((f.zipIdx o).map fun x => if i ≤ x.2 ∧ x.2 < i + n then false else x.1) < freeCount f) := by
    intro f
    induction f with
    | nil => intro o; exact ⟨by simp [freeCount], fun j _ h => by simp at h⟩
    | cons b f ih =>
      intro o
      obtain ⟨i1, i2⟩ := ih (o + 1)
      simp only [List.zipIdx_cons, List.map_cons, freeCount, List.countP_cons] at i1 i2 ⊢
      constructor
      · by_cases c : i ≤ o ∧ o < i + n
        · rw [if_pos c, if_neg (by decide)]; omega
        · rw [if_neg c]; omega
      · intro j hj hb
        cases j with
        | zero =>
          have c : i ≤ o ∧ o < i + n := by omega
          rw [if_pos c]
          have : b = true := by simpa using hb
          subst this
          rw [if_neg (by decide), if_pos rfl]; omega
        | succ j =>
          have := i2 j (by omega) (by simpa using hb)
          by_cases c : i ≤ o ∧ o < i + n
          · rw [if_pos c, if_neg (by decide)]; omega
          · rw [if_neg c]; omega
  exact (key f 0).2 i (by omega) h0
theorem any_false_count {f : Free} (h : f.any (fun b => b) = false) : freeCount f = 0 := by
  unfold freeCount
  rw [List.countP_eq_zero]
  rw [List.any_eq_false] at h
  exact h
theorem freeAt_any {f : Free} {i n : Nat} (hn : 0 < n) (h : freeAt f i n = true) : f.any (fun b => b) = true := by
  have := use_count hn h
  cases e : f.any (fun b => b) with
  | true => rfl
  | false => rw [any_false_count e] at this; omega
theorem may_free {p : Prices} {s : Sent} {f : Free} {a i : Nat} {x : Phrase} (h : may p s f a i x = true) : freeAt f i x.source.length = true := by
  unfold may at h
  rw [Bool.and_eq_true, Bool.and_eq_true] at h
  exact h.2.1
theorem goes_cons {p : Prices} {l : List Phrase} {s : Sent} {i k : Nat} {w : Way} {f : Free} {a last c : Nat} {t : Sent} (h : goes p l s ((i, k) :: w) f a last = some (c, t)) :
    ∃ x c' t', phraseOf l k = some x ∧ may p s f a i x = true ∧ goes p l s w (use f i x.source.length) (i + x.source.length) (lastOf last x.target) = some (c', t') ∧ c = stepCost p a last i x + c' ∧ t = x.target ++ t' := by
  unfold goes at h
  cases e : phraseOf l k with
  | none => rw [e] at h; cases h
  | some x =>
    rw [e] at h
    simp only at h
    cases m : may p s f a i x with
    | false => rw [m] at h; simp at h
    | true =>
      rw [m] at h
      simp only [Bool.true_eq_false, if_false, Option.map_eq_some_iff] at h
      obtain ⟨⟨c', t'⟩, h1, h2⟩ := h
      exact ⟨x, c', t', rfl, m, h1, (Prod.mk.inj h2).1.symm, (Prod.mk.inj h2).2.symm⟩
theorem goes_cons_of {p : Prices} {l : List Phrase} {s : Sent} {i k : Nat} {w : Way} {f : Free} {a last c' : Nat} {t' : Sent} {x : Phrase} (e : phraseOf l k = some x) (m : may p s f a i x = true) (h : goes p l s w (use f i x.source.length) (i + x.source.length) (lastOf last x.target) = some (c', t')) :
    goes p l s ((i, k) :: w) f a last = some (stepCost p a last i x + c', x.target ++ t') := by
  unfold goes
  rw [e]
  simp only [m, h, Bool.true_eq_false, if_false, Option.map_some]
theorem goes_len {p : Prices} {l : List Phrase} (g : Good l) {s : Sent} : ∀ {w : Way} {f : Free} {a last : Nat} {r : Nat × Sent}, goes p l s w f a last = some r → w.length ≤ freeCount f
  | [], _, _, _, _, _ => Nat.zero_le _
  | (i, k) :: w, f, a, last, (c, t), h => by
    obtain ⟨x, c', t', e, m, h', _, _⟩ := goes_cons h
    have := goes_len g h'
    have hx := g.src x (phraseOf_mem e).1
    have := use_count (List.length_pos_iff.mpr hx) (may_free m)
    simp only [List.length_cons]
    omega
theorem allFree_count (s : Sent) : freeCount (allFree s) = s.length := by
  unfold allFree freeCount
  induction s with
  | nil => rfl
  | cons a s ih => simp only [List.map_cons, List.countP_cons, List.length_cons]; rw [ih]; rfl

/-! The first of the cheapest in a fold -/
theorem cheaper_none (m : Option Found) : cheaper m none = m := by cases m <;> rfl
theorem fold_first {α : Type} (go : α → Bool) (g : α → Option Found) : ∀ (xs : List α) (m : Option Found),
    (xs.foldl (fun m x => if go x = false then m else cheaper m (g x)) m = none → m = none ∧ ∀ x ∈ xs, go x = true → g x = none) ∧
    (∀ y, xs.foldl (fun m x => if go x = false then m else cheaper m (g x)) m = some y →
      (m = some y ∧ ∀ x ∈ xs, go x = true → ∀ y', g x = some y' → y.1 ≤ y'.1) ∨
      (∃ pre x post, xs = pre ++ x :: post ∧ go x = true ∧ g x = some y ∧ (∀ z, m = some z → y.1 < z.1) ∧
        (∀ x' ∈ pre, go x' = true → ∀ y', g x' = some y' → y.1 < y'.1) ∧ (∀ x' ∈ post, go x' = true → ∀ y', g x' = some y' → y.1 ≤ y'.1)))
  | [], m => ⟨fun h => ⟨h, fun x h => by cases h⟩, fun y h => Or.inl ⟨h, fun x h => by cases h⟩⟩
  | a :: xs, m => by
    rw [List.foldl_cons]
    obtain ⟨n1, s1⟩ := fold_first go g xs (if go a = false then m else cheaper m (g a))
    constructor
    · intro h
      obtain ⟨h1, h2⟩ := n1 h
      cases c : go a with
      | false =>
        rw [c, if_pos rfl] at h1
        refine ⟨h1, fun x hx hg => ?_⟩
        rcases List.mem_cons.mp hx with rfl | hx
        · rw [c] at hg; cases hg
        · exact h2 x hx hg
      | true =>
        rw [c, if_neg (by decide)] at h1
        have hm : m = none ∧ g a = none := by
          cases e : g a with
          | none => rw [e, cheaper_none] at h1; exact ⟨h1, rfl⟩
          | some v =>
            rw [e] at h1
            cases m with
            | none => cases h1
            | some u =>
              simp only [cheaper] at h1
              split at h1 <;> cases h1
        refine ⟨hm.1, fun x hx hg => ?_⟩
        rcases List.mem_cons.mp hx with rfl | hx
        · exact hm.2
        · exact h2 x hx hg
    · intro y h
      rcases s1 y h with ⟨h1, h2⟩ | ⟨pre, x, post, e, hg, hy, hz, hp, hq⟩
      · cases c : go a with
        | false =>
          rw [c, if_pos rfl] at h1
          refine Or.inl ⟨h1, fun x hx hg => ?_⟩
          rcases List.mem_cons.mp hx with rfl | hx
          · rw [c] at hg; cases hg
          · exact h2 x hx hg
        | true =>
          rw [c, if_neg (by decide)] at h1
          cases e : g a with
          | none =>
            rw [e, cheaper_none] at h1
            refine Or.inl ⟨h1, fun x hx hg => ?_⟩
            rcases List.mem_cons.mp hx with rfl | hx
            · intro y' h'; rw [e] at h'; cases h'
            · exact h2 x hx hg
          | some z =>
            rw [e] at h1
            cases m with
            | none =>
              refine Or.inr ⟨[], a, xs, rfl, c, e.trans h1, fun z h => (by cases h), fun x h => (by cases h), h2⟩
            | some u =>
              simp only [cheaper] at h1
              split at h1
              · rename_i lt
                cases h1
                exact Or.inr ⟨[], a, xs, rfl, c, e, fun z h => (by cases h; exact lt), fun x h => (by cases h), h2⟩
              · rename_i nlt
                cases h1
                refine Or.inl ⟨rfl, fun x hx hg => ?_⟩
                rcases List.mem_cons.mp hx with rfl | hx
                · intro y' h'; rw [e] at h'; cases h'; omega
                · exact h2 x hx hg
      · subst e
        have hfirst : (∀ z, m = some z → y.1 < z.1) ∧ (go a = true → ∀ y', g a = some y' → y.1 < y'.1) := by
          cases c : go a with
          | false => rw [c, if_pos rfl] at hz; exact ⟨hz, fun h => by cases h⟩
          | true =>
            rw [c, if_neg (by decide)] at hz
            cases ea : g a with
            | none => rw [ea, cheaper_none] at hz; exact ⟨hz, fun _ y' h => by cases h⟩
            | some v =>
              rw [ea] at hz
              cases m with
              | none =>
                have := hz v rfl
                exact ⟨fun z h => (by cases h), fun _ y' h => (by cases h; exact this)⟩
              | some u =>
                simp only [cheaper] at hz
                by_cases lt : v.1 < u.1
                · rw [if_pos lt] at hz
                  have := hz v rfl
                  exact ⟨fun z h => (by cases h; omega), fun _ y' h => (by cases h; exact this)⟩
                · rw [if_neg lt] at hz
                  have := hz u rfl
                  exact ⟨fun z h => (by cases h; omega), fun _ y' h => (by cases h; omega)⟩
        refine Or.inr ⟨a :: pre, x, post, rfl, hg, hy, hfirst.1, fun x' hx' => ?_, hq⟩
        rcases List.mem_cons.mp hx' with rfl | hx'
        · exact hfirst.2
        · exact hp x' hx'

/-! The cheapest way -/
structure Least (p : Prices) (l : List Phrase) (s : Sent) (want : Option Sent) (f : Free) (a last k : Nat) (r : Option Found) : Prop where
  no : r = none → ∀ w c t, w.length < k → goes p l s w f a last = some (c, t) → ¬ fits want t
  yes : ∀ c w t, r = some (c, w, t) → goes p l s w f a last = some (c, t) ∧ w.length < k ∧ fits want t ∧
    ∀ w' c' t', w'.length < k → goes p l s w' f a last = some (c', t') → fits want t' → noLater c w c' w'
def goOn (want : Option Sent) (t : Sent) : Bool := match want with
  | none => true
  | some w => w.take t.length == t
theorem fits_append {want : Option Sent} {t u : Sent} : fits want (t ++ u) ↔ goOn want t = true ∧ fits (want.map fun w => w.drop t.length) u := by
  cases want with
  | none => simp [fits, goOn]
  | some w =>
    simp only [fits, goOn, Option.map_some, reduceCtorEq, false_or, Option.some.injEq, beq_iff_eq]
    constructor
    · rintro rfl
      simp
    · rintro ⟨h1, h2⟩
      have e := List.take_append_drop t.length w
      rw [h1, h2] at e
      exact e.symm
theorem best_succ {p : Prices} {l : List Phrase} {s : Sent} {k : Nat} {want : Option Sent} {f : Free} {a last : Nat} :
    best p l s (k + 1) want f a last = if f.any (fun b => b) = false then (if want = none ∨ want = some [] then some (pairCost p last 0, [], []) else none) else
      (nexts p l s f a).foldl (fun m x => if goOn want x.2.target = false then m else cheaper m ((best p l s k (want.map fun w => w.drop x.2.target.length) (use f x.1 x.2.source.length) (x.1 + x.2.source.length) (lastOf last x.2.target)).map fun y => (stepCost p a last x.1 x.2 + y.1, (x.1, x.2.number) :: y.2.1, x.2.target ++ y.2.2))) none := rfl
theorem goes_nil_any {p : Prices} {l : List Phrase} {s : Sent} {f : Free} {a last : Nat} {r : Nat × Sent} (h : goes p l s [] f a last = some r) : f.any (fun b => b) = false ∧ r = (pairCost p last 0, []) := by
  unfold goes at h
  split at h
  · cases h
  · rename_i c
    exact ⟨by simpa using c, (Option.some.inj h).symm⟩
theorem best_least {p : Prices} {l : List Phrase} (g : Good l) {s : Sent} : ∀ (k : Nat) (want : Option Sent) (f : Free) (a last : Nat), Least p l s want f a last k (best p l s k want f a last)
  | 0, want, f, a, last => ⟨fun _ w c t h => by omega, fun c w t h => by cases h⟩
  | k + 1, want, f, a, last => by
    rw [best_succ]
    by_cases hf : f.any (fun b => b) = false
    · rw [if_pos hf]
      have only : ∀ w c t, goes p l s w f a last = some (c, t) → w = [] ∧ c = pairCost p last 0 ∧ t = [] := by
        intro w c t h
        cases w with
        | nil =>
          have := (goes_nil_any h).2
          exact ⟨rfl, (Prod.mk.inj this).1, (Prod.mk.inj this).2⟩
        | cons u w =>
          have := goes_len g h
          rw [any_false_count hf] at this
          simp at this
      have h0 : goes p l s [] f a last = some (pairCost p last 0, []) := by
        unfold goes
        rw [hf]
        rfl
      by_cases hw : want = none ∨ want = some []
      · rw [if_pos hw]
        refine ⟨fun h => (by cases h), fun c w t h => ?_⟩
        cases h
        refine ⟨h0, Nat.succ_pos _, hw, fun w' c' t' _ h _ => ?_⟩
        obtain ⟨rfl, rfl, rfl⟩ := only w' c' t' h
        exact noLater_refl _ _
      · rw [if_neg hw]
        refine ⟨fun _ w c t _ h ht => ?_, fun c w t h => by cases h⟩
        obtain ⟨rfl, rfl, rfl⟩ := only w c t h
        exact hw ht
    · rw [if_neg hf]
      have hf' : f.any (fun b => b) = true := by simpa using hf
      obtain ⟨n1, s1⟩ := fold_first (fun x : Nat × Phrase => goOn want x.2.target) (fun x => (best p l s k (want.map fun w => w.drop x.2.target.length) (use f x.1 x.2.source.length) (x.1 + x.2.source.length) (lastOf last x.2.target)).map fun y => (stepCost p a last x.1 x.2 + y.1, (x.1, x.2.number) :: y.2.1, x.2.target ++ y.2.2)) (nexts p l s f a) none
      -- a way from here: its first step is among the next ones
      have first : ∀ w c t, w.length < k + 1 → goes p l s w f a last = some (c, t) → fits want t → ∃ x ∈ nexts p l s f a, ∃ w' c' t', w = (x.1, x.2.number) :: w' ∧ w'.length < k ∧ goes p l s w' (use f x.1 x.2.source.length) (x.1 + x.2.source.length) (lastOf last x.2.target) = some (c', t') ∧ c = stepCost p a last x.1 x.2 + c' ∧ t = x.2.target ++ t' ∧ goOn want x.2.target = true ∧ fits (want.map fun w => w.drop x.2.target.length) t' := by
        intro w c t hl h ht
        cases w with
        | nil =>
          have := (goes_nil_any h).1
          rw [hf'] at this
          cases this
        | cons u w =>
          obtain ⟨i, n⟩ := u
          obtain ⟨x, c', t', e, m, h', ec, et⟩ := goes_cons h
          obtain ⟨hx, rfl⟩ := phraseOf_mem e
          subst et
          have := fits_append.mp ht
          exact ⟨(i, x), mem_nexts.mpr ⟨may_lt (g.src x hx) m, hx, m⟩, w, c', t', rfl, by simpa using hl, h', ec, rfl, this.1, this.2⟩
      constructor
      · intro h w c t hl hw ht
        obtain ⟨x, hx, w', c', t', rfl, hl', h', _, _, hg, hft⟩ := first w c t hl hw ht
        have := (n1 h).2 x hx hg
        rw [Option.map_eq_none_iff] at this
        exact (best_least g k _ _ _ _).no this w' c' t' hl' h' hft
      · intro c w t h
        rcases s1 (c, w, t) h with ⟨h1, _⟩ | ⟨pre, x, post, e, hg, hy, _, hp, hq⟩
        · cases h1
        · simp only [Option.map_eq_some_iff] at hy
          obtain ⟨⟨c1, w1, t1⟩, hb, he⟩ := hy
          cases he
          have hx : x ∈ nexts p l s f a := by rw [e]; simp
          obtain ⟨_, hxl, hm⟩ := mem_nexts.mp hx
          obtain ⟨g1, l1, f1, m1⟩ := (best_least g k _ _ _ _).yes c1 w1 t1 hb
          refine ⟨goes_cons_of (phraseOf_of g.up hxl) hm g1, by simpa using l1, fits_append.mpr ⟨hg, f1⟩, ?_⟩
          intro w' c' t' hl' h' ht'
          obtain ⟨x', hx', w2, c2, t2, rfl, hl2, h2, rfl, rfl, hg2, hf2⟩ := first w' c' t' hl' h' ht'
          have up := nexts_up (p := p) (s := s) (f := f) (a := a) g.up
          -- what best tells of x'
          have some2 : ∃ y, best p l s k (want.map fun w => w.drop x'.2.target.length) (use f x'.1 x'.2.source.length) (x'.1 + x'.2.source.length) (lastOf last x'.2.target) = some y ∧ noLater y.1 y.2.1 c2 w2 := by
            have B := best_least (p := p) (s := s) g k (want.map fun w => w.drop x'.2.target.length) (use f x'.1 x'.2.source.length) (x'.1 + x'.2.source.length) (lastOf last x'.2.target)
            cases eb : best p l s k (want.map fun w => w.drop x'.2.target.length) (use f x'.1 x'.2.source.length) (x'.1 + x'.2.source.length) (lastOf last x'.2.target) with
            | none => exact (B.no eb w2 c2 t2 hl2 h2 hf2).elim
            | some y => exact ⟨y, rfl, (B.yes y.1 y.2.1 y.2.2 eb).2.2.2 w2 c2 t2 hl2 h2 hf2⟩
          obtain ⟨y, hy, hyn⟩ := some2
          have le : y.1 ≤ c2 := by rcases hyn with h | h <;> omega
          rw [e] at hx' up
          rw [List.pairwise_append, List.pairwise_cons] at up
          rcases List.mem_append.mp hx' with hin | hin
          · have := hp x' hin hg2 _ (by rw [hy]; rfl)
            simp only at this
            exact Or.inl (by omega)
          · rcases List.mem_cons.mp hin with rfl | hin
            · rcases m1 w2 c2 t2 hl2 h2 hf2 with lt | ⟨ec, ew⟩
              · exact Or.inl (by omega)
              · refine Or.inr ⟨by omega, ?_⟩
                rcases ew with rfl | ew
                · exact Or.inl rfl
                · exact Or.inr (Or.inr ⟨rfl, Or.inr ⟨rfl, ew⟩⟩)
            · have := hq x' hin hg2 _ (by rw [hy]; rfl)
              simp only at this
              rcases Nat.lt_or_ge (stepCost p a last x.1 x.2 + c1) (stepCost p a last x'.1 x'.2 + c2) with lt | ge
              · exact Or.inl lt
              · refine Or.inr ⟨by omega, Or.inr ?_⟩
                rcases up.2.1.1 x' hin with h | ⟨h, h2⟩
                · exact Or.inl h
                · exact Or.inr ⟨h, Or.inl h2⟩
end Pw
namespace Pw
open Ut09
/-! All sentences, the cheapest first -/
def foundLt (x y : Found) : Prop := x.1 < y.1 ∨ (x.1 = y.1 ∧ wayLt x.2.1 y.2.1)
theorem foundLt_irrefl (x : Found) : ¬ foundLt x x := by
  rintro (h | ⟨_, h⟩)
  · omega
  · exact wayLt_irrefl _ h
theorem foundLt_trans {x y z : Found} (h : foundLt x y) (g : foundLt y z) : foundLt x z := by
  rcases h with h | ⟨e, h⟩ <;> rcases g with g | ⟨d, g⟩
  · exact Or.inl (by omega)
  · exact Or.inl (by omega)
  · exact Or.inl (by omega)
  · exact Or.inr ⟨by omega, wayLt_trans h g⟩
theorem foundLt_noLater {x y : Found} (h : foundLt x y) : noLater x.1 x.2.1 y.1 y.2.1 := by
  rcases h with h | ⟨e, h⟩
  · exact Or.inl h
  · exact Or.inr ⟨e, Or.inr h⟩
theorem eq_of_up {α : Type} {lt : α → α → Prop} (irr : ∀ x, ¬ lt x x) (tr : ∀ {x y z}, lt x y → lt y z → lt x z) : ∀ {a b : List α}, a.Pairwise lt → b.Pairwise lt → (∀ x, x ∈ a ↔ x ∈ b) → a = b
  | [], [], _, _, _ => rfl
  | [], y :: b, _, _, h => by simpa using (h y).mpr List.mem_cons_self
  | x :: a, [], _, _, h => by simpa using (h x).mp List.mem_cons_self
  | x :: a, y :: b, ha, hb, h => by
    rw [List.pairwise_cons] at ha hb
    have e : x = y := by
      rcases List.mem_cons.mp ((h x).mp List.mem_cons_self) with e | hx
      · exact e
      · rcases List.mem_cons.mp ((h y).mpr List.mem_cons_self) with e | hy
        · exact e.symm
        · exact (irr x (tr (ha.1 y hy) (hb.1 x hx))).elim
    subst e
    rw [eq_of_up irr tr ha.2 hb.2 fun z => ?_]
    constructor
    · intro hz
      rcases List.mem_cons.mp ((h z).mp (List.mem_cons_of_mem _ hz)) with rfl | q
      · exact (irr z (ha.1 z hz)).elim
      · exact q
    · intro hz
      rcases List.mem_cons.mp ((h z).mpr (List.mem_cons_of_mem _ hz)) with rfl | q
      · exact (irr z (hb.1 z hz)).elim
      · exact q
theorem allFrom_succ {p : Prices} {l : List Phrase} {s : Sent} {k : Nat} {f : Free} {a last : Nat} :
    allFrom p l s (k + 1) f a last = if f.any (fun b => b) = false then [(pairCost p last 0, [], [])] else
      (nexts p l s f a).flatMap fun x => (allFrom p l s k (use f x.1 x.2.source.length) (x.1 + x.2.source.length) (lastOf last x.2.target)).map fun y => (stepCost p a last x.1 x.2 + y.1, (x.1, x.2.number) :: y.2.1, x.2.target ++ y.2.2) := rfl
theorem mem_allFrom {p : Prices} {l : List Phrase} (g : Good l) {s : Sent} : ∀ (k : Nat) (f : Free) (a last : Nat) (y : Found), y ∈ allFrom p l s k f a last ↔ y.2.1.length < k ∧ goes p l s y.2.1 f a last = some (y.1, y.2.2)
  | 0, f, a, last, y => by simp [allFrom]
  | k + 1, f, a, last, (c, w, t) => by
    rw [allFrom_succ]
    by_cases hf : f.any (fun b => b) = false
    · rw [if_pos hf, List.mem_singleton]
      constructor
      · intro h
        cases h
        refine ⟨Nat.succ_pos _, ?_⟩
        unfold goes
        rw [hf]
        rfl
      · rintro ⟨_, h⟩
        cases w with
        | nil =>
          have := (goes_nil_any h).2
          cases this
          rfl
        | cons u w =>
          have := goes_len g h
          rw [any_false_count hf] at this
          simp at this
    · rw [if_neg hf]
      have hf' : f.any (fun b => b) = true := by simpa using hf
      simp only [List.mem_flatMap, List.mem_map]
      constructor
      · rintro ⟨x, hx, ⟨c1, w1, t1⟩, hy, he⟩
        cases he
        obtain ⟨h1, h2⟩ := (mem_allFrom g k _ _ _ _).mp hy
        obtain ⟨_, hxl, hm⟩ := mem_nexts.mp hx
        exact ⟨by simpa using h1, goes_cons_of (phraseOf_of g.up hxl) hm h2⟩
      · rintro ⟨hl, h⟩
        cases w with
        | nil =>
          have := (goes_nil_any h).1
          rw [hf'] at this
          cases this
        | cons u w =>
          obtain ⟨i, n⟩ := u
          obtain ⟨x, c', t', e, m, h', ec, et⟩ := goes_cons h
          obtain ⟨hx, rfl⟩ := phraseOf_mem e
          subst ec et
          exact ⟨(i, x), mem_nexts.mpr ⟨may_lt (g.src x hx) m, hx, m⟩, (c', w, t'), (mem_allFrom g k _ _ _ _).mpr ⟨by simpa using hl, h'⟩, rfl⟩
theorem allFrom_up {p : Prices} {l : List Phrase} (g : Good l) {s : Sent} : ∀ (k : Nat) (f : Free) (a last : Nat), (allFrom p l s k f a last).Pairwise fun x y => wayLt x.2.1 y.2.1
  | 0, f, a, last => List.Pairwise.nil
  | k + 1, f, a, last => by
    rw [allFrom_succ]
    by_cases hf : f.any (fun b => b) = false
    · rw [if_pos hf]
      exact List.pairwise_singleton _ _
    · rw [if_neg hf, List.pairwise_flatMap]
      constructor
      · intro x _
        rw [List.pairwise_map]
        refine (allFrom_up g k _ _ _).imp ?_
        intro u v h
        exact Or.inr ⟨rfl, Or.inr ⟨rfl, h⟩⟩
      · refine (nexts_up g.up).imp ?_
        intro x y h u hu v hv
        rw [List.mem_map] at hu hv
        obtain ⟨u', _, rfl⟩ := hu
        obtain ⟨v', _, rfl⟩ := hv
        rcases h with h | ⟨h, h2⟩
        · exact Or.inl h
        · exact Or.inr ⟨h, Or.inl h2⟩
theorem insertFound_mem {x : Found} : ∀ {m : List Found} {y : Found}, y ∈ insertFound x m ↔ y = x ∨ y ∈ m
  | [], y => by simp [insertFound]
  | z :: m, y => by
    unfold insertFound
    split
    · simp
    · rw [List.mem_cons, insertFound_mem, List.mem_cons]
      constructor
      · rintro (h | h | h)
        · exact Or.inr (Or.inl h)
        · exact Or.inl h
        · exact Or.inr (Or.inr h)
      · rintro (h | h | h)
        · exact Or.inr (Or.inl h)
        · exact Or.inl h
        · exact Or.inr (Or.inr h)
theorem insertFound_up {x : Found} : ∀ {m : List Found}, m.Pairwise foundLt → (∀ y ∈ m, wayLt y.2.1 x.2.1) → (insertFound x m).Pairwise foundLt
  | [], _, _ => List.pairwise_singleton _ _
  | z :: m, h, hx => by
    rw [List.pairwise_cons] at h
    unfold insertFound
    split
    · rename_i c
      rw [List.pairwise_cons, List.pairwise_cons]
      refine ⟨fun y hy => ?_, h⟩
      rcases List.mem_cons.mp hy with rfl | hy
      · exact Or.inl c
      · exact foundLt_trans (Or.inl c) (h.1 y hy)
    · rename_i c
      rw [List.pairwise_cons]
      refine ⟨fun y hy => ?_, insertFound_up h.2 fun y hy => hx y (List.mem_cons_of_mem _ hy)⟩
      rcases insertFound_mem.mp hy with rfl | hy
      · rcases Nat.lt_or_ge z.1 y.1 with lt | ge
        · exact Or.inl lt
        · exact Or.inr ⟨by omega, hx z List.mem_cons_self⟩
      · exact h.1 y hy
theorem sort_fold : ∀ (xs m : List Found), m.Pairwise foundLt → xs.Pairwise (fun x y => wayLt x.2.1 y.2.1) → (∀ y ∈ m, ∀ x ∈ xs, wayLt y.2.1 x.2.1) →
    (xs.foldl (fun m x => insertFound x m) m).Pairwise foundLt ∧ ∀ y, y ∈ xs.foldl (fun m x => insertFound x m) m ↔ y ∈ m ∨ y ∈ xs
  | [], m, h, _, _ => ⟨h, fun y => by simp⟩
  | x :: xs, m, h, hx, hm => by
    rw [List.foldl_cons]
    rw [List.pairwise_cons] at hx
    obtain ⟨r1, r2⟩ := sort_fold xs (insertFound x m) (insertFound_up h fun y hy => hm y hy x List.mem_cons_self) hx.2 fun y hy z hz => by
      rcases insertFound_mem.mp hy with rfl | hy
      · exact hx.1 z hz
      · exact hm y hy z (List.mem_cons_of_mem _ hz)
    refine ⟨r1, fun y => ?_⟩
    rw [r2, insertFound_mem, List.mem_cons]
    constructor
    · rintro ((h | h) | h)
      · exact Or.inr (Or.inl h)
      · exact Or.inl h
      · exact Or.inr (Or.inr h)
    · rintro (h | h | h)
      · exact Or.inl (Or.inr h)
      · exact Or.inl (Or.inl h)
      · exact Or.inr h
def dedupe (xs m : List Found) : List Found := xs.foldl (fun m x => if (m.any fun y => y.2.2 == x.2.2) = true then m else m ++ [x]) m
theorem dedupe_up : ∀ (xs m : List Found), (m ++ xs).Pairwise foundLt → (dedupe xs m).Pairwise foundLt ∧
    ∀ y, y ∈ dedupe xs m ↔ y ∈ m ∨ (y ∈ xs ∧ (∀ z ∈ m, z.2.2 ≠ y.2.2) ∧ ∀ z ∈ xs, z.2.2 = y.2.2 → y = z ∨ foundLt y z)
  | [], m, h => ⟨by simpa [dedupe] using h, fun y => by simp [dedupe]⟩
  | x :: xs, m, h => by
    have hu := h
    rw [List.pairwise_append, List.pairwise_cons] at hu
    unfold dedupe
    rw [List.foldl_cons]
    by_cases c : (m.any fun y => y.2.2 == x.2.2) = true
    · rw [if_pos c]
      have sub : (m ++ xs).Pairwise foundLt := by
        rw [List.pairwise_append]
        exact ⟨hu.1, hu.2.1.2, fun a ha b hb => hu.2.2 a ha b (List.mem_cons_of_mem _ hb)⟩
      obtain ⟨r1, r2⟩ := dedupe_up xs m sub
      refine ⟨r1, fun y => (r2 y).trans ?_⟩
      rw [List.any_eq_true] at c
      obtain ⟨z0, hz0, e0⟩ := c
      rw [beq_iff_eq] at e0
      constructor
      · rintro (h1 | ⟨h1, h2, h3⟩)
        · exact Or.inl h1
        · refine Or.inr ⟨List.mem_cons_of_mem _ h1, h2, fun z hz he => ?_⟩
          rcases List.mem_cons.mp hz with rfl | hz
          · exact (h2 z0 hz0 (e0.trans he)).elim
          · exact h3 z hz he
      · rintro (h1 | ⟨h1, h2, h3⟩)
        · exact Or.inl h1
        · rcases List.mem_cons.mp h1 with rfl | h1
          · exact (h2 z0 hz0 e0).elim
          · exact Or.inr ⟨h1, h2, fun z hz he => h3 z (List.mem_cons_of_mem _ hz) he⟩
    · rw [if_neg c]
      have ass : (m ++ [x] ++ xs).Pairwise foundLt := by rw [List.append_assoc]; exact h
      obtain ⟨r1, r2⟩ := dedupe_up xs (m ++ [x]) ass
      refine ⟨r1, fun y => (r2 y).trans ?_⟩
      have nc : ∀ z ∈ m, z.2.2 ≠ x.2.2 := by
        intro z hz e
        apply c
        rw [List.any_eq_true]
        exact ⟨z, hz, by rw [beq_iff_eq]; exact e⟩
      constructor
      · rintro (h1 | ⟨h1, h2, h3⟩)
        · rcases List.mem_append.mp h1 with h1 | h1
          · exact Or.inl h1
          · have : y = x := by simpa using h1
            subst this
            refine Or.inr ⟨List.mem_cons_self, nc, fun z hz _ => ?_⟩
            rcases List.mem_cons.mp hz with rfl | hz
            · exact Or.inl rfl
            · exact Or.inr (hu.2.1.1 z hz)
        · refine Or.inr ⟨List.mem_cons_of_mem _ h1, fun z hz => h2 z (by simp [hz]), fun z hz he => ?_⟩
          rcases List.mem_cons.mp hz with rfl | hz
          · exact (h2 z (by simp) he).elim
          · exact h3 z hz he
      · rintro (h1 | ⟨h1, h2, h3⟩)
        · exact Or.inl (List.mem_append_left _ h1)
        · rcases List.mem_cons.mp h1 with rfl | h1'
          · exact Or.inl (by simp)
          · refine Or.inr ⟨h1', fun z hz he => ?_, fun z hz he => h3 z (List.mem_cons_of_mem _ hz) he⟩
            rcases List.mem_append.mp hz with hz | hz
            · exact h2 z hz he
            · have : z = x := by simpa using hz
              subst this
              rcases h3 z List.mem_cons_self he with rfl | h4
              · exact foundLt_irrefl _ (hu.2.1.1 y h1')
              · exact foundLt_irrefl _ (foundLt_trans h4 (hu.2.1.1 y h1'))
theorem sentences_is {p : Prices} {l : List Phrase} (g : Good l) (s : Sent) : (sentences p l s).Pairwise foundLt ∧
    ∀ y, y ∈ sentences p l s ↔ wayCost p l s y.2.1 = some (y.1, y.2.2) ∧ ∀ w c, wayCost p l s w = some (c, y.2.2) → noLater y.1 y.2.1 c w := by
  obtain ⟨r1, r2⟩ := sort_fold (allFrom p l s (s.length + 1) (allFree s) 0 0) [] List.Pairwise.nil (allFrom_up g _ _ _ _) (fun y hy => by cases hy)
  obtain ⟨d1, d2⟩ := dedupe_up _ [] (by simpa using r1)
  refine ⟨d1, fun y => (d2 y).trans ?_⟩
  have mem : ∀ y : Found, y ∈ (allFrom p l s (s.length + 1) (allFree s) 0 0).foldl (fun m x => insertFound x m) [] ↔ wayCost p l s y.2.1 = some (y.1, y.2.2) := by
    intro y
    rw [r2, mem_allFrom g]
    constructor
    · rintro (h | h)
      · cases h
      · exact h.2
    · intro h
      refine Or.inr ⟨?_, h⟩
      have := goes_len g h
      rw [allFree_count] at this
      omega
  constructor
  · rintro (h | ⟨h1, _, h3⟩)
    · cases h
    · refine ⟨(mem y).mp h1, fun w c h => ?_⟩
      rcases h3 (c, w, y.2.2) ((mem _).mpr h) rfl with e | e
      · rw [e]
        exact noLater_refl _ _
      · exact foundLt_noLater e
  · rintro ⟨h1, h2⟩
    refine Or.inr ⟨(mem y).mpr h1, fun z h => (by cases h), fun z hz he => ?_⟩
    have hz' := (mem z).mp hz
    rw [he] at hz'
    rcases h2 z.2.1 z.1 hz' with h | ⟨e, h | h⟩
    · exact Or.inr (Or.inl h)
    · left
      exact Prod.ext e (Prod.ext h he.symm)
    · exact Or.inr (Or.inr ⟨e, h⟩)
theorem translate_is {p : Prices} {l : List Phrase} (g : Good l) (s : Sent) (want : Option Sent) :
    (translate p l s want = none ↔ ∀ w c t, wayCost p l s w = some (c, t) → ¬ fits want t) ∧
    (∀ c w t, translate p l s want = some (c, w, t) ↔ wayCost p l s w = some (c, t) ∧ fits want t ∧ ∀ w' c' t', wayCost p l s w' = some (c', t') → fits want t' → noLater c w c' w') := by
  have B := best_least (p := p) (s := s) g (s.length + 1) want (allFree s) 0 0
  have len : ∀ w c t, wayCost p l s w = some (c, t) → w.length < s.length + 1 := by
    intro w c t h
    have := goes_len g h
    rw [allFree_count] at this
    omega
  constructor
  · constructor
    · intro h w c t hw
      exact B.no h w c t (len w c t hw) hw
    · intro h
      cases e : translate p l s want with
      | none => rfl
      | some y =>
        obtain ⟨y1, _, y3, _⟩ := B.yes y.1 y.2.1 y.2.2 e
        exact (h _ _ _ y1 y3).elim
  · intro c w t
    constructor
    · intro h
      obtain ⟨y1, _, y3, y4⟩ := B.yes c w t h
      exact ⟨y1, y3, fun w' c' t' h' => y4 w' c' t' (len w' c' t' h') h'⟩
    · rintro ⟨h1, h2, h3⟩
      cases e : translate p l s want with
      | none => exact (B.no e w c t (len w c t h1) h1 h2).elim
      | some y =>
        obtain ⟨y1, _, y3, y4⟩ := B.yes y.1 y.2.1 y.2.2 e
        obtain ⟨e1, e2⟩ := noLater_anti (h3 _ _ _ y1 y3) (y4 w c t (len w c t h1) h1 h2)
        rw [← e2] at y1
        have y1 := h1.symm.trans y1
        have := Option.some.inj y1
        cases y with
        | mk c1 r =>
          cases r with
          | mk w1 t1 =>
            simp only at e1 e2 this
            cases this
            rw [e2]
end Pw
namespace Pw
/-- what the specification's machine always keeps -/
structure GoodG (g : Ut09.House) : Prop where
  ph : Good g.phrases
  num : ∀ x ∈ g.phrases, x.number < g.given
  few : g.phrases.length ≤ 6
  prs : g.prices.pairs.length ≤ 20
  srcs : ∀ x ∈ g.phrases, x.source.length ≤ 3 ∧ x.target.length ≤ 3 ∧ x.cost ≤ 999
  jmp : g.prices.jump ≤ 999
theorem good_init : GoodG Ut09.init := ⟨⟨List.Pairwise.nil, fun x h => (by cases h)⟩, fun x h => (by cases h), by decide, by decide, fun x h => (by cases h), by decide⟩
theorem good_step {g : Ut09.House} (G : GoodG g) (c : Ut09.Call) : GoodG (Ut09.step g c).1 := by
  cases c with
  | phrase s t c =>
    unfold Ut09.step
    simp only
    split
    · exact G
    · rename_i h
      split
      · exact G
      · rename_i h6
        have hs : s ≠ [] := fun e => h (Or.inr (Or.inl e))
        have len : ∀ l : List Nat, ¬ Ut09.sentOk 3 l = false → l.length ≤ 3 := by
          intro l hl
          have hl : Ut09.sentOk 3 l = true := by simpa using hl
          unfold Ut09.sentOk at hl
          rw [Bool.and_eq_true] at hl
          exact of_decide_eq_true hl.1
        have l1 := len s fun e => h (Or.inl e)
        have l2 := len t fun e => h (Or.inr (Or.inr (Or.inl e)))
        have l3 : c ≤ 999 := by
          rcases Nat.lt_or_ge 999 c with q | q
          · exact (h (Or.inr (Or.inr (Or.inr q)))).elim
          · exact q
        refine ⟨⟨?_, ?_⟩, ?_, ?_, G.prs, ?_, G.jmp⟩
        · rw [List.pairwise_append]
          refine ⟨G.ph.up, List.pairwise_singleton _ _, fun x hx y hy => ?_⟩
          have : y = ⟨g.given, s, t, c⟩ := by simpa using hy
          subst this
          exact G.num x hx
        · intro x hx
          rcases List.mem_append.mp hx with hx | hx
          · exact G.ph.src x hx
          · have : x = ⟨g.given, s, t, c⟩ := by simpa using hx
            subst this
            exact hs
        · intro x hx
          rcases List.mem_append.mp hx with hx | hx
          · have := G.num x hx
            show x.number < g.given + 1
            omega
          · have : x = ⟨g.given, s, t, c⟩ := by simpa using hx
            subst this
            exact Nat.lt_succ_self _
        · show (g.phrases ++ _).length ≤ 6
          rw [List.length_append]
          simp only [List.length_cons, List.length_nil]
          omega
        · intro x hx
          rcases List.mem_append.mp hx with hx | hx
          · exact G.srcs x hx
          · have : x = ⟨g.given, s, t, c⟩ := by simpa using hx
            subst this
            exact ⟨l1, l2, l3⟩
  | gone k =>
    unfold Ut09.step
    simp only
    split
    · exact G
    · refine ⟨⟨G.ph.up.filter _, fun x hx => G.ph.src x (List.mem_filter.mp hx).1⟩, fun x hx => G.num x (List.mem_filter.mp hx).1, Nat.le_trans (List.length_filter_le _ _) G.few, G.prs, fun x hx => G.srcs x (List.mem_filter.mp hx).1, G.jmp⟩
  | pair a b c =>
    unfold Ut09.step
    simp only
    split
    · exact G
    · split
      · exact ⟨G.ph, G.num, G.few, Nat.le_trans (List.length_filter_le _ _) G.prs, G.srcs, G.jmp⟩
      · split
        · exact G
        · rename_i h
          refine ⟨G.ph, G.num, G.few, ?_, G.srcs, G.jmp⟩
          show List.length (_ ++ _) ≤ 20
          rw [List.length_append]
          simp only [List.length_cons, List.length_nil]
          omega
  | prices o j w =>
    unfold Ut09.step
    simp only
    split
    · exact G
    · rename_i h
      refine ⟨G.ph, G.num, G.few, G.prs, G.srcs, ?_⟩
      show j ≤ 999
      omega
  | translate s => exact G
  | force s t => exact G
  | cost s w => exact G
  | some_ n s => exact G
  | phrases => exact G
end Pw
namespace Pw
open PyFlat PyUt09
theorem toNat_ints (l : List Nat) : (Ut09.ints l).map Int.toNat = l := by
  unfold Ut09.ints
  rw [List.map_map]
  have : (Int.toNat ∘ fun (n : Nat) => (n : Int)) = id := by
    funext n
    simp
  rw [this, List.map_id]
theorem ints_toNat {l : List Int} (h : ∀ x ∈ l, 0 ≤ x) : Ut09.ints (l.map Int.toNat) = l := by
  unfold Ut09.ints
  rw [List.map_map]
  conv => rhs; rw [← List.map_id l]
  apply List.map_congr_left
  intro x hx
  have := h x hx
  simp
  omega
theorem within_iff {lo hi z : Int} : PyInside.within lo hi z = true ↔ lo ≤ z ∧ z ≤ hi := by
  unfold PyInside.within
  rw [Bool.and_eq_true, decide_eq_true_eq, decide_eq_true_eq]
theorem row_ok {r : List Int} (h : r.all (PyInside.within 0 4294967295) = true) : ∃ l : List Nat, r = Ut09.ints l ∧ ∀ n ∈ l, n < 4294967296 := by
  rw [List.all_eq_true] at h
  refine ⟨r.map Int.toNat, (ints_toNat fun x hx => (within_iff.mp (h x hx)).1).symm, fun n hn => ?_⟩
  obtain ⟨x, hx, rfl⟩ := List.mem_map.mp hn
  have := within_iff.mp (h x hx)
  omega
theorem nat_cast {n : Nat} (h : n < 4294967296) : Ut09Neutral.nat (n : Int) = true := by
  unfold Ut09Neutral.nat
  rw [Bool.and_eq_true, decide_eq_true_eq, decide_eq_true_eq]
  have : (2 : Int) ^ 32 = 4294967296 := by decide
  omega
theorem nats_ok {l : List Nat} (h : ∀ n ∈ l, n < 4294967296) : (Ut09.ints l).all Ut09Neutral.nat = true := by
  rw [List.all_eq_true]
  intro x hx
  unfold Ut09.ints at hx
  obtain ⟨n, hn, rfl⟩ := List.mem_map.mp hx
  exact nat_cast (h n hn)
theorem ints_length (l : List Nat) : (Ut09.ints l).length = l.length := List.length_map _
theorem sentIn_put (r l : List Nat) : Ut09Neutral.sentIn (r.length :: (r ++ l)) = some (r, l) := by
  show (if (r ++ l).length < r.length then none else some ((r ++ l).take r.length, (r ++ l).drop r.length)) = some (r, l)
  rw [if_neg (by rw [List.length_append]; omega), List.take_left, List.drop_left]
theorem callOf_ints {l : List Nat} (h : ∀ n ∈ l, n < 4294967296) : Ut09Neutral.callOf (Ut09.ints l) = Ut09Neutral.callIn l := by
  unfold Ut09Neutral.callOf
  rw [if_neg (by rw [nats_ok h]; decide), toNat_ints]
theorem step_of {l : List Nat} {c : Ut09.Call} (h : ∀ n ∈ l, n < 4294967296) (e : Ut09Neutral.callIn l = some c) (g : Ut09.St) : Ut09Neutral.step g (Ut09.ints l) = Ut09.step g c := by
  unfold Ut09Neutral.step
  rw [callOf_ints h, e]
/-- the calls, one by one: what is read, what the specification does with it -/
inductive Is : List (List Int) → Ut09.Call → Prop
  | phrase (c : Nat) (s t : List Nat) : s.length ≤ 6 → t.length ≤ 6 → Is [[0, (c : Int)], Ut09.ints s, Ut09.ints t] (.phrase s t c)
  | gone (n : Nat) : Is [[1, (n : Int)]] (.gone n)
  | pair (a b c : Nat) : Is [[2, (a : Int), (b : Int), (c : Int)]] (.pair a b c)
  | prices (o j w : Nat) : Is [[3, (o : Int), (j : Int), (w : Int)]] (.prices o j w)
  | translate (s : List Nat) : s.length ≤ 8 → Is [[4], Ut09.ints s] (.translate s)
  | force (s t : List Nat) : s.length ≤ 8 → t.length ≤ 20 → Is [[5], Ut09.ints s, Ut09.ints t] (.force s t)
  | cost (s : List Nat) (l : List Nat) (w : Ut09.Way) : s.length ≤ 8 → l.length ≤ 14 → Ut09Neutral.pairsIn l = some w → Is [[6], Ut09.ints s, Ut09.ints l] (.cost s w)
  | some_ (n : Nat) (s : List Nat) : s.length ≤ 6 → Is [[7, (n : Int)], Ut09.ints s] (.some_ n s)
  | phrases : Is [[8]] .phrases
theorem one_ok {lo hi x : Int} {b : List (Int × Int)} {xs : List Int} (h : PyInside.each ((lo, hi) :: b) (x :: xs) = true) : (lo ≤ x ∧ x ≤ hi) ∧ PyInside.each b xs = true := by
  have h' : (PyInside.within lo hi x && PyInside.each b xs) = true := h
  rw [Bool.and_eq_true] at h'
  exact ⟨within_iff.mp h'.1, h'.2⟩
theorem list_ok {hi : Nat} {r : List Int} {b : List (Int × Int × Nat × Nat)} {rs : List (List Int)} (h : PyInside.lists ((0, 4294967295, 0, hi) :: b) (r :: rs) = true) : (∃ l : List Nat, r = Ut09.ints l ∧ l.length ≤ hi ∧ ∀ n ∈ l, n < 4294967296) ∧ PyInside.lists b rs = true := by
  have h' : (decide (0 ≤ r.length) && decide (r.length ≤ hi) && r.all (PyInside.within 0 4294967295) && PyInside.lists b rs) = true := h
  rw [Bool.and_eq_true, Bool.and_eq_true, Bool.and_eq_true] at h'
  obtain ⟨l, e, b'⟩ := row_ok h'.1.2
  refine ⟨⟨l, e, ?_, b'⟩, h'.2⟩
  have := of_decide_eq_true h'.1.1.2
  rw [e, ints_length] at this
  exact this
theorem nat_of {x : Int} (h : 0 ≤ x ∧ x ≤ 4294967295) : ∃ n : Nat, x = (n : Int) ∧ n < 4294967296 := ⟨x.toNat, by omega, by omega⟩
theorem len2 {α : Type} {l : List α} (h : 2 = l.length) : ∃ a b, l = [a, b] := by
  match l, h with
  | [a, b], _ => exact ⟨a, b, rfl⟩
theorem len3 {α : Type} {l : List α} (h : 3 = l.length) : ∃ a b c, l = [a, b, c] := by
  match l, h with
  | [a, b, c], _ => exact ⟨a, b, c, rfl⟩
theorem len1 {α : Type} {l : List α} (h : 1 = l.length) : ∃ a, l = [a] := by
  match l, h with
  | [a], _ => exact ⟨a, rfl⟩
theorem len0 {α : Type} {l : List α} (h : 0 = l.length) : l = [] := List.length_eq_zero_iff.mp h.symm
theorem is_of {c : List (List Int)} (h : okCall shape c) (b : PyInside.call bound c = true) (q : Ut09Neutral.asked1 ((whole c).headD []) = true) :
    ∃ x, Is c x ∧ ∀ g, Ut09Neutral.step g ((whole c).headD []) = Ut09.step g x := by
  obtain ⟨p, a, xs, rfl, hs⟩ := h
  have b' : (PyInside.each (bound p).1 a && PyInside.lists (bound p).2 xs) = true := b
  rw [Bool.and_eq_true] at b'
  obtain ⟨b1, b2⟩ := b'
  unfold shape at hs
  by_cases c0 : p = 0
  · subst c0
    rw [if_pos rfl] at hs
    obtain ⟨h1, h2⟩ := Prod.mk.inj (Option.some.inj hs)
    obtain ⟨x, rfl⟩ := len1 h1
    obtain ⟨r0, r1, rfl⟩ := len2 h2
    obtain ⟨n, rfl, hn⟩ := nat_of (one_ok b1).1
    obtain ⟨⟨s, rfl, ls, bs⟩, b3⟩ := list_ok (hi := 6) b2
    obtain ⟨⟨t, rfl, lt, bt⟩, _⟩ := list_ok (hi := 6) b3
    refine ⟨_, .phrase n s t ls lt, fun g => ?_⟩
    have e : (whole [[0, (n : Int)], Ut09.ints s, Ut09.ints t]).headD [] = Ut09.ints (0 :: n :: s.length :: (s ++ (t.length :: (t ++ [])))) := by
      show [0] ++ [(n : Int)] ++ [((Ut09.ints s).length : Int)] ++ Ut09.ints s ++ [((Ut09.ints t).length : Int)] ++ Ut09.ints t = _
      rw [ints_length, ints_length]
      simp [Ut09.ints]
    rw [e]
    refine step_of ?_ ?_ g
    · intro m hm
      simp only [List.mem_cons, List.mem_append, List.append_nil] at hm
      rcases hm with rfl | rfl | rfl | hm | rfl | hm
      · omega
      · exact hn
      · omega
      · exact bs m hm
      · omega
      · exact bt m hm
    · show (Ut09Neutral.sentIn (s.length :: (s ++ (t.length :: (t ++ []))))).bind _ = _
      rw [sentIn_put]
      show (Ut09Neutral.sentIn (t.length :: (t ++ []))).bind _ = _
      rw [sentIn_put]
      rfl
  rw [if_neg c0] at hs
  by_cases c1 : p = 1
  · subst c1
    rw [if_pos rfl] at hs
    obtain ⟨h1, h2⟩ := Prod.mk.inj (Option.some.inj hs)
    obtain ⟨x, rfl⟩ := len1 h1
    obtain rfl := len0 h2
    obtain ⟨n, rfl, hn⟩ := nat_of (one_ok b1).1
    refine ⟨_, .gone n, fun g => step_of (l := [1, n]) ?_ rfl g⟩
    intro m hm
    simp only [List.mem_cons, List.not_mem_nil, or_false] at hm
    omega
  rw [if_neg c1] at hs
  by_cases c2 : p = 2
  · subst c2
    rw [if_pos rfl] at hs
    obtain ⟨h1, h2⟩ := Prod.mk.inj (Option.some.inj hs)
    obtain ⟨x, y, z, rfl⟩ := len3 h1
    obtain rfl := len0 h2
    obtain ⟨n, rfl, hn⟩ := nat_of (one_ok b1).1
    obtain ⟨n', rfl, hn'⟩ := nat_of (one_ok (one_ok b1).2).1
    obtain ⟨n'', rfl, hn''⟩ := nat_of (one_ok (one_ok (one_ok b1).2).2).1
    refine ⟨_, .pair n n' n'', fun g => step_of (l := [2, n, n', n'']) ?_ rfl g⟩
    intro m hm
    simp only [List.mem_cons, List.not_mem_nil, or_false] at hm
    omega
  rw [if_neg c2] at hs
  by_cases c3 : p = 3
  · subst c3
    rw [if_pos rfl] at hs
    obtain ⟨h1, h2⟩ := Prod.mk.inj (Option.some.inj hs)
    obtain ⟨x, y, z, rfl⟩ := len3 h1
    obtain rfl := len0 h2
    obtain ⟨n, rfl, hn⟩ := nat_of (one_ok b1).1
    obtain ⟨n', rfl, hn'⟩ := nat_of (one_ok (one_ok b1).2).1
    obtain ⟨n'', rfl, hn''⟩ := nat_of (one_ok (one_ok (one_ok b1).2).2).1
    refine ⟨_, .prices n n' n'', fun g => step_of (l := [3, n, n', n'']) ?_ rfl g⟩
    intro m hm
    simp only [List.mem_cons, List.not_mem_nil, or_false] at hm
    omega
  rw [if_neg c3] at hs
  by_cases c4 : p = 4
  · subst c4
    rw [if_pos rfl] at hs
    obtain ⟨h1, h2⟩ := Prod.mk.inj (Option.some.inj hs)
    obtain rfl := len0 h1
    obtain ⟨r0, rfl⟩ := len1 h2
    obtain ⟨⟨s, rfl, ls, bs⟩, _⟩ := list_ok (hi := 8) b2
    refine ⟨_, .translate s ls, fun g => step_of (l := 4 :: s) ?_ rfl g⟩
    intro m hm
    rcases List.mem_cons.mp hm with rfl | hm
    · omega
    · exact bs m hm
  rw [if_neg c4] at hs
  by_cases c5 : p = 5
  · subst c5
    rw [if_pos rfl] at hs
    obtain ⟨h1, h2⟩ := Prod.mk.inj (Option.some.inj hs)
    obtain rfl := len0 h1
    obtain ⟨r0, r1, rfl⟩ := len2 h2
    obtain ⟨⟨s, rfl, ls, bs⟩, b3⟩ := list_ok (hi := 8) b2
    obtain ⟨⟨t, rfl, lt, bt⟩, _⟩ := list_ok (hi := 20) b3
    refine ⟨_, .force s t ls lt, fun g => ?_⟩
    have e : (whole [[5], Ut09.ints s, Ut09.ints t]).headD [] = Ut09.ints (5 :: s.length :: (s ++ t)) := by
      show [5] ++ [((Ut09.ints s).length : Int)] ++ Ut09.ints s ++ Ut09.ints t = _
      rw [ints_length]
      simp [Ut09.ints]
    rw [e]
    refine step_of ?_ ?_ g
    · intro m hm
      simp only [List.mem_cons, List.mem_append] at hm
      rcases hm with rfl | rfl | hm | hm
      · omega
      · omega
      · exact bs m hm
      · exact bt m hm
    · show (Ut09Neutral.sentIn (s.length :: (s ++ t))).map _ = _
      rw [sentIn_put]
      rfl
  rw [if_neg c5] at hs
  by_cases c6 : p = 6
  · subst c6
    rw [if_pos rfl] at hs
    obtain ⟨h1, h2⟩ := Prod.mk.inj (Option.some.inj hs)
    obtain rfl := len0 h1
    obtain ⟨r0, r1, rfl⟩ := len2 h2
    obtain ⟨⟨s, rfl, ls, bs⟩, b3⟩ := list_ok (hi := 8) b2
    obtain ⟨⟨t, rfl, lt, bt⟩, _⟩ := list_ok (hi := 14) b3
    have e : (whole [[6], Ut09.ints s, Ut09.ints t]).headD [] = Ut09.ints (6 :: s.length :: (s ++ t)) := by
      show [6] ++ [((Ut09.ints s).length : Int)] ++ Ut09.ints s ++ Ut09.ints t = _
      rw [ints_length]
      simp [Ut09.ints]
    have bnd : ∀ m ∈ (6 :: s.length :: (s ++ t)), m < 4294967296 := by
      intro m hm
      simp only [List.mem_cons, List.mem_append] at hm
      rcases hm with rfl | rfl | hm | hm
      · omega
      · omega
      · exact bs m hm
      · exact bt m hm
    have ci : Ut09Neutral.callIn (6 :: s.length :: (s ++ t)) = (Ut09Neutral.pairsIn t).map fun w => .cost s w := by
      show (Ut09Neutral.sentIn (s.length :: (s ++ t))).bind _ = _
      rw [sentIn_put]
      rfl
    have q' : (Ut09Neutral.callOf ((whole [[6], Ut09.ints s, Ut09.ints t]).headD [])).isSome = true := q
    rw [e, callOf_ints bnd, ci] at q'
    cases ep : Ut09Neutral.pairsIn t with
    | none => rw [ep] at q'; cases q'
    | some w =>
      refine ⟨_, .cost s t w ls lt ep, fun g => ?_⟩
      rw [e]
      refine step_of bnd ?_ g
      rw [ci, ep]
      rfl
  rw [if_neg c6] at hs
  by_cases c7 : p = 7
  · subst c7
    rw [if_pos rfl] at hs
    obtain ⟨h1, h2⟩ := Prod.mk.inj (Option.some.inj hs)
    obtain ⟨x, rfl⟩ := len1 h1
    obtain ⟨r0, rfl⟩ := len1 h2
    obtain ⟨n, rfl, hn⟩ := nat_of (one_ok b1).1
    obtain ⟨⟨s, rfl, ls, bs⟩, _⟩ := list_ok (hi := 6) b2
    refine ⟨_, .some_ n s ls, fun g => step_of (l := 7 :: n :: s) ?_ rfl g⟩
    intro m hm
    simp only [List.mem_cons] at hm
    rcases hm with rfl | rfl | hm
    · omega
    · exact hn
    · exact bs m hm
  rw [if_neg c7] at hs
  by_cases c8 : p = 8
  · subst c8
    rw [if_pos rfl] at hs
    obtain ⟨h1, h2⟩ := Prod.mk.inj (Option.some.inj hs)
    obtain rfl := len0 h1
    obtain rfl := len0 h2
    refine ⟨_, .phrases, fun g => step_of (l := [8]) ?_ rfl g⟩
    intro m hm
    simp only [List.mem_cons, List.not_mem_nil, or_false] at hm
    omega
  rw [if_neg c8] at hs
  cases hs
end Pw
namespace Pw
open Ut09
/-! Trails: ways that are not at their end -/
structure Tr where
  cost : Nat
  steps : Way
  words : Sent
  free : Free
  ended : Nat
def Tr.last (t : Tr) : Nat := lastOf 0 t.words
def Tr.done (t : Tr) : Bool := !(t.free.any fun b => b)
def stepped (p : Prices) (t : Tr) (i : Nat) (x : Phrase) : Tr := ⟨t.cost + stepCost p t.ended t.last i x, t.steps ++ [(i, x.number)], t.words ++ x.target, use t.free i x.source.length, i + x.source.length⟩
def closed (p : Prices) (t : Tr) : Tr := { t with cost := t.cost + pairCost p t.last 0 }
def start (s : Sent) : Tr := ⟨0, [], [], allFree s, 0⟩
structure TrOk (p : Prices) (l : List Phrase) (s : Sent) (n : Nat) (t : Tr) : Prop where
  val : ∀ w, goes p l s (t.steps ++ w) (allFree s) 0 0 = (goes p l s w t.free t.ended t.last).map fun y => (t.cost + y.1, t.words ++ y.2)
  len : t.steps.length = n
  fl : t.free.length = s.length
  fc : n + freeCount t.free ≤ s.length
  wl : t.words.length ≤ 3 * n
  en : t.ended ≤ s.length
theorem use_length (f : Free) (i n : Nat) : (use f i n).length = f.length := by
  unfold use
  rw [List.length_map, List.length_zipIdx]
theorem lastOf_append (a b : Sent) (z : Nat) : lastOf z (a ++ b) = lastOf (lastOf z a) b := by
  unfold lastOf
  induction a generalizing z with
  | nil => rfl
  | cons x a ih =>
    rw [List.cons_append, List.getLastD_cons, List.getLastD_cons]
    exact ih x
theorem start_ok (p : Prices) (l : List Phrase) (s : Sent) : TrOk p l s 0 (start s) where
  val := fun w => by
    show goes p l s ([] ++ w) (allFree s) 0 0 = (goes p l s w (allFree s) 0 (lastOf 0 [])).map _
    have e : lastOf 0 [] = 0 := rfl
    rw [List.nil_append, e]
    cases goes p l s w (allFree s) 0 0 with
    | none => rfl
    | some y => simp [start]
  len := rfl
  fl := by simp [start, allFree]
  fc := by
    show 0 + freeCount (allFree s) ≤ s.length
    rw [allFree_count]
    omega
  wl := by simp [start]
  en := Nat.zero_le _
theorem may_end {p : Prices} {s : Sent} {f : Free} {a i : Nat} {x : Phrase} (hs : x.source ≠ []) (h : may p s f a i x = true) : i + x.source.length ≤ s.length := by
  have hi := may_lt hs h
  unfold may at h
  rw [Bool.and_eq_true, beq_iff_eq] at h
  have := congrArg List.length h.1
  rw [List.length_take, List.length_drop] at this
  omega
theorem stepped_ok {p : Prices} {l : List Phrase} (g : Good l) {s : Sent} {n : Nat} {t : Tr} (h : TrOk p l s n t) {i : Nat} {x : Phrase} (hx : x ∈ l) (hm : may p s t.free t.ended i x = true) (ht : x.target.length ≤ 3) : TrOk p l s (n + 1) (stepped p t i x) where
  val := fun w => by
    show goes p l s ((t.steps ++ [(i, x.number)]) ++ w) (allFree s) 0 0 = (goes p l s w (use t.free i x.source.length) (i + x.source.length) (lastOf 0 (t.words ++ x.target))).map _
    rw [List.append_assoc, h.val, lastOf_append]
    show (goes p l s ((i, x.number) :: w) t.free t.ended t.last).map _ = (goes p l s w (use t.free i x.source.length) (i + x.source.length) (lastOf t.last x.target)).map _
    have e : goes p l s ((i, x.number) :: w) t.free t.ended t.last = (goes p l s w (use t.free i x.source.length) (i + x.source.length) (lastOf t.last x.target)).map fun y => (stepCost p t.ended t.last i x + y.1, x.target ++ y.2) := by
      show (match phraseOf l x.number with
        | none => none
        | some x => if may p s t.free t.ended i x = false then none else _) = _
      rw [phraseOf_of g.up hx]
      simp only [hm, Bool.true_eq_false, if_false]
    rw [e, Option.map_map]
    cases goes p l s w (use t.free i x.source.length) (i + x.source.length) (lastOf t.last x.target) with
    | none => rfl
    | some y => simp [stepped, Nat.add_assoc]
  len := by
    show (t.steps ++ [(i, x.number)]).length = n + 1
    rw [List.length_append, h.len]
    rfl
  fl := (use_length _ _ _).trans h.fl
  fc := by
    have := use_count (List.length_pos_iff.mpr (g.src x hx)) (may_free hm)
    have := h.fc
    show n + 1 + freeCount (use t.free i x.source.length) ≤ s.length
    omega
  wl := by
    show (t.words ++ x.target).length ≤ 3 * (n + 1)
    have := h.wl
    rw [List.length_append]
    omega
  en := may_end (g.src x hx) hm
theorem done_way {p : Prices} {l : List Phrase} {s : Sent} {n : Nat} {t : Tr} (h : TrOk p l s n t) (hd : t.done = true) : wayCost p l s t.steps = some (t.cost + pairCost p t.last 0, t.words) := by
  have := h.val []
  rw [List.append_nil] at this
  unfold wayCost
  rw [this]
  have hf : t.free.any (fun b => b) = false := by
    unfold Tr.done at hd
    simpa using hd
  have e : goes p l s [] t.free t.ended t.last = some (pairCost p t.last 0, []) := by
    unfold goes
    rw [hf]
    rfl
  rw [e]
  simp
theorem way_done {p : Prices} {l : List Phrase} {s : Sent} {n : Nat} {t : Tr} (h : TrOk p l s n t) {r : Nat × Sent} (e : wayCost p l s t.steps = some r) : t.done = true := by
  have := h.val []
  rw [List.append_nil] at this
  unfold wayCost at e
  rw [this, Option.map_eq_some_iff] at e
  obtain ⟨y, hy, _⟩ := e
  have := (goes_nil_any hy).1
  unfold Tr.done
  rw [this]
  rfl
def better (t b : Tr) : Prop := noLater t.cost t.steps b.cost b.steps
def longer (p : Prices) (l : List Phrase) (s : Sent) (ts : List Tr) : List Tr := ts.flatMap fun t => (nexts p l s t.free t.ended).map fun y => stepped p t y.1 y.2
def found (b : Tr) : Found := (b.cost, b.steps, b.words)
/-! Bits -/
def bitsOf : Free → Nat
  | [] => 0
  | b :: r => (if b = true then 0 else 1) + 2 * bitsOf r
theorem bitsOf_test : ∀ (f : Free) (j : Nat), (bitsOf f).testBit j = !(f.getD j true)
  | [], j => by simp [bitsOf]
  | b :: r, 0 => by
    rw [Nat.testBit_zero]
    cases b <;> simp [bitsOf] <;> omega
  | b :: r, j + 1 => by
    rw [Nat.testBit_succ]
    have : bitsOf (b :: r) / 2 = bitsOf r := by
      show ((if b = true then 0 else 1) + 2 * bitsOf r) / 2 = bitsOf r
      split <;> omega
    rw [this, bitsOf_test r j]
    rfl
theorem span_test (s e j : Nat) (h : s ≤ e) : (2 ^ e - 2 ^ s).testBit j = (decide (s ≤ j) && decide (j < e)) := by
  have e1 : 2 ^ e - 2 ^ s = (2 ^ (e - s) - 1) * 2 ^ s := by
    rw [Nat.sub_mul, ← Nat.pow_add]
    have : e - s + s = e := by omega
    rw [this]
    omega
  rw [e1, Nat.testBit_mul_two_pow, Nat.testBit_two_pow_sub_one]
  by_cases c : s ≤ j
  · rw [decide_eq_true c]
    have : decide (j - s < e - s) = decide (j < e) := decide_eq_decide.mpr (by omega)
    rw [this]
  · rw [decide_eq_false c]
    simp
theorem use_get (f : Free) (i n j : Nat) : (use f i n).getD j true = (f.getD j true && !(decide (j < f.length) && (decide (i ≤ j) && decide (j < i + n)))) := by
  unfold use
  rw [List.getD_eq_getElem?_getD, List.getD_eq_getElem?_getD, List.getElem?_map, List.getElem?_zipIdx]
  cases e : f[j]? with
  | none =>
    have : ¬ j < f.length := by
      have := List.getElem?_eq_none_iff.mp e
      omega
    simp [this]
  | some b =>
    have hj : j < f.length := (List.getElem?_eq_some_iff.mp e).1
    simp only [Option.map_some, Option.getD_some, Nat.zero_add, hj, decide_true, Bool.true_and]
    by_cases c : i ≤ j ∧ j < i + n
    · rw [if_pos c]
      simp [c.1, c.2]
    · rw [if_neg c]
      have : (decide (i ≤ j) && decide (j < i + n)) = false := by
        rw [← Bool.not_eq_true, Bool.and_eq_true, decide_eq_true_eq, decide_eq_true_eq]
        exact c
      rw [this]
      simp
theorem bits_use {f : Free} {i n : Nat} (h : i + n ≤ f.length) : bitsOf (use f i n) = bitsOf f ||| (2 ^ (i + n) - 2 ^ i) := by
  apply Nat.eq_of_testBit_eq
  intro j
  rw [Nat.testBit_or, bitsOf_test, bitsOf_test, span_test _ _ _ (Nat.le_add_right _ _), use_get]
  by_cases c : i ≤ j ∧ j < i + n
  · have hj : j < f.length := by omega
    simp [c.1, c.2, hj]
  · have : (decide (i ≤ j) && decide (j < i + n)) = false := by
      rw [← Bool.not_eq_true, Bool.and_eq_true, decide_eq_true_eq, decide_eq_true_eq]
      exact c
    simp [this]
theorem bits_and {f : Free} {i n : Nat} (h : i + n ≤ f.length) : (bitsOf f &&& (2 ^ (i + n) - 2 ^ i) = 0) ↔ freeAt f i n = true := by
  unfold freeAt
  rw [List.all_eq_true]
  constructor
  · intro e j hj
    have hj := List.mem_range.mp hj
    have := congrArg (fun x => x.testBit (i + j)) e
    simp only [Nat.testBit_and, bitsOf_test, Nat.zero_testBit] at this
    rw [span_test _ _ _ (Nat.le_add_right _ _), decide_eq_true (Nat.le_add_right i j), decide_eq_true (show i + j < i + n by omega)] at this
    have hl : i + j < f.length := by omega
    rw [List.getD_eq_getElem?_getD, List.getElem?_eq_getElem hl] at this ⊢
    simpa using this
  · intro e
    apply Nat.eq_of_testBit_eq
    intro j
    rw [Nat.testBit_and, bitsOf_test, span_test _ _ _ (Nat.le_add_right _ _), Nat.zero_testBit]
    by_cases c : i ≤ j ∧ j < i + n
    · have := e (j - i) (List.mem_range.mpr (by omega))
      have ej : i + (j - i) = j := by omega
      rw [ej] at this
      have hl : j < f.length := by omega
      rw [List.getD_eq_getElem?_getD, List.getElem?_eq_getElem hl] at this ⊢
      simp at this
      simp [this]
    · have : (decide (i ≤ j) && decide (j < i + n)) = false := by
        rw [← Bool.not_eq_true, Bool.and_eq_true, decide_eq_true_eq, decide_eq_true_eq]
        exact c
      rw [this]
      simp
theorem bits_inj {f g : Free} (h : f.length = g.length) (e : bitsOf f = bitsOf g) : f = g := by
  apply List.ext_getElem? 
  intro j
  have := congrArg (fun x => x.testBit j) e
  simp only [bitsOf_test] at this
  rcases Nat.lt_or_ge j f.length with c | c
  · rw [List.getD_eq_getElem?_getD, List.getD_eq_getElem?_getD, List.getElem?_eq_getElem c, List.getElem?_eq_getElem (h ▸ c)] at this
    rw [List.getElem?_eq_getElem c, List.getElem?_eq_getElem (h ▸ c)]
    simpa using this
  · rw [List.getElem?_eq_none c, List.getElem?_eq_none (h ▸ c)]
theorem bits_allFree (s : Sent) : bitsOf (allFree s) = 0 := by
  unfold allFree
  induction s with
  | nil => rfl
  | cons a s ih => simp only [List.map_cons, bitsOf, ih, if_true]
theorem bits_done {f : Free} : bitsOf f = 2 ^ f.length - 2 ^ 0 ↔ (f.any fun b => b) = false := by
  rw [List.any_eq_false]
  constructor
  · intro e x hx
    obtain ⟨j, hj, rfl⟩ := List.getElem_of_mem hx
    have := congrArg (fun x => x.testBit j) e
    simp only [bitsOf_test] at this
    rw [span_test _ _ _ (Nat.zero_le _), List.getD_eq_getElem?_getD, List.getElem?_eq_getElem hj] at this
    simpa [hj] using this
  · intro h
    apply Nat.eq_of_testBit_eq
    intro j
    rw [bitsOf_test, span_test _ _ _ (Nat.zero_le _)]
    rcases Nat.lt_or_ge j f.length with c | c
    · rw [List.getD_eq_getElem?_getD, List.getElem?_eq_getElem c]
      have := h _ (List.getElem_mem c)
      simp [c]
      simpa using this
    · rw [List.getD_eq_getElem?_getD, List.getElem?_eq_none c]
      simp
      omega
end Pw
namespace Pw
open Ut09
def nextsAt (p : Prices) (l : List Phrase) (s : Sent) (f : Free) (a i : Nat) : List (Nat × Phrase) := (l.filter fun x => may p s f a i x).map fun x => (i, x)
def nextsTo (p : Prices) (l : List Phrase) (s : Sent) (f : Free) (a j : Nat) : List (Nat × Phrase) := (List.range j).flatMap fun i => nextsAt p l s f a i
theorem nextsTo_all (p : Prices) (l : List Phrase) (s : Sent) (f : Free) (a : Nat) : nextsTo p l s f a s.length = nexts p l s f a := rfl
theorem nextsTo_zero (p : Prices) (l : List Phrase) (s : Sent) (f : Free) (a : Nat) : nextsTo p l s f a 0 = [] := rfl
theorem nextsTo_succ (p : Prices) (l : List Phrase) (s : Sent) (f : Free) (a j : Nat) : nextsTo p l s f a (j + 1) = nextsTo p l s f a j ++ nextsAt p l s f a j := by
  unfold nextsTo
  rw [List.range_succ, List.flatMap_append]
  simp
theorem nextsAt_length {p : Prices} {l : List Phrase} (hs : ∀ x ∈ l, x.source ≠ []) {s : Sent} {f : Free} {a i : Nat} : (nextsAt p l s f a i).length ≤ l.length * (if f.getD i false = true then 1 else 0) := by
  unfold nextsAt
  rw [List.length_map]
  by_cases c : f.getD i false = true
  · rw [if_pos c, Nat.mul_one]
    exact List.length_filter_le _ _
  · rw [if_neg c, Nat.mul_zero]
    have : (l.filter fun x => may p s f a i x) = [] := by
      rw [List.filter_eq_nil_iff]
      intro x hx hm
      have h := may_free hm
      unfold freeAt at h
      rw [List.all_eq_true] at h
      have h0 := h 0 (List.mem_range.mpr (List.length_pos_iff.mpr (hs x hx)))
      exact c (by simpa using h0)
    rw [this]
    exact Nat.zero_le _
theorem nextsTo_length {p : Prices} {l : List Phrase} (hs : ∀ x ∈ l, x.source ≠ []) {s : Sent} {f : Free} {a : Nat} : ∀ j, (nextsTo p l s f a j).length ≤ l.length * freeCount (f.take j)
  | 0 => by simp [nextsTo]
  | j + 1 => by
    rw [nextsTo_succ, List.length_append]
    have h1 := nextsTo_length hs (p := p) (s := s) (f := f) (a := a) j
    have h2 := nextsAt_length hs (p := p) (s := s) (f := f) (a := a) (i := j)
    have e : freeCount (f.take (j + 1)) = freeCount (f.take j) + (if f.getD j false = true then 1 else 0) := by
      unfold freeCount
      rw [List.take_add_one, List.countP_append, List.getD_eq_getElem?_getD]
      cases e : f[j]? with
      | none => simp
      | some b => cases b <;> simp
    rw [e, Nat.mul_add]
    omega
theorem nexts_length {p : Prices} {l : List Phrase} (hs : ∀ x ∈ l, x.source ≠ []) {s : Sent} {f : Free} {a : Nat} (hf : f.length = s.length) : (nexts p l s f a).length ≤ l.length * freeCount f := by
  rw [← nextsTo_all]
  have := nextsTo_length hs (p := p) (s := s) (f := f) (a := a) s.length
  rw [← hf, List.take_length] at this
  rw [← hf]
  exact this
/-- the trails gone on with so far: of the first ones all, of the next one those from the first words on, and of the next word those by the first phrases -/
theorem longer_take {p : Prices} {l : List Phrase} {s : Sent} {ts : List Tr} {i : Nat} {t : Tr} (h : ts[i]? = some t) : longer p l s (ts.take (i + 1)) = longer p l s (ts.take i) ++ (nexts p l s t.free t.ended).map fun y => stepped p t y.1 y.2 := by
  unfold longer
  have e : ts.take (i + 1) = ts.take i ++ [t] := by
    rw [List.take_add_one, h]
    rfl
  rw [e, List.flatMap_append]
  simp
theorem longer_length {p : Prices} {l : List Phrase} (hs : ∀ x ∈ l, x.source ≠ []) {s : Sent} {n : Nat} : ∀ {ts : List Tr}, (∀ t ∈ ts, t.free.length = s.length ∧ n + freeCount t.free ≤ s.length) → (longer p l s ts).length ≤ ts.length * (l.length * (s.length - n))
  | [], _ => by simp [longer]
  | t :: ts, h => by
    have ih := longer_length hs (p := p) (s := s) (n := n) (ts := ts) fun u hu => h u (List.mem_cons_of_mem _ hu)
    unfold longer at ih ⊢
    rw [List.flatMap_cons, List.length_append, List.length_map, List.length_cons, Nat.add_mul, Nat.one_mul]
    obtain ⟨h1, h2⟩ := h t List.mem_cons_self
    have h3 := nexts_length hs (p := p) (a := t.ended) h1
    have h4 : l.length * freeCount t.free ≤ l.length * (s.length - n) := Nat.mul_le_mul_left _ (by omega)
    omega
theorem nextsTo_mono {p : Prices} {l : List Phrase} {s : Sent} {f : Free} {a j : Nat} : ∀ k, (nextsTo p l s f a j).length ≤ (nextsTo p l s f a (j + k)).length
  | 0 => Nat.le_refl _
  | k + 1 => by
    have := nextsTo_mono (p := p) (l := l) (s := s) (f := f) (a := a) (j := j) k
    have e := congrArg List.length (nextsTo_succ p l s f a (j + k))
    rw [List.length_append] at e
    show _ ≤ (nextsTo p l s f a (j + k + 1)).length
    omega
/-- the longer trails behind i trails, j words, m phrases -/
def accAt (p : Prices) (l : List Phrase) (s : Sent) (ts : List Tr) (i : Nat) (t : Tr) (j m : Nat) : List Tr := longer p l s (ts.take i) ++ (nextsTo p l s t.free t.ended j ++ nextsAt p (l.take m) s t.free t.ended j).map fun y => stepped p t y.1 y.2
theorem accAt_start {p : Prices} {l : List Phrase} {s : Sent} {ts : List Tr} {i : Nat} {t : Tr} : accAt p l s ts i t 0 0 = longer p l s (ts.take i) := by
  unfold accAt
  simp [nextsTo, nextsAt]
theorem accAt_phrase {p : Prices} {l : List Phrase} {s : Sent} {ts : List Tr} {i : Nat} {t : Tr} {j m : Nat} {x : Phrase} (h : l[m]? = some x) : accAt p l s ts i t j (m + 1) = accAt p l s ts i t j m ++ if may p s t.free t.ended j x = true then [stepped p t j x] else [] := by
  have e : l.take (m + 1) = l.take m ++ [x] := by
    rw [List.take_add_one, h]
    rfl
  unfold accAt nextsAt
  rw [e, List.filter_append, List.map_append]
  cases c : may p s t.free t.ended j x <;> simp [c]
theorem accAt_word {p : Prices} {l : List Phrase} {s : Sent} {ts : List Tr} {i : Nat} {t : Tr} {j : Nat} : accAt p l s ts i t j l.length = accAt p l s ts i t (j + 1) 0 := by
  unfold accAt
  rw [nextsTo_succ, List.take_length, List.take_zero]
  simp [nextsAt]
theorem accAt_trail {p : Prices} {l : List Phrase} {s : Sent} {ts : List Tr} {i : Nat} {t : Tr} (h : ts[i]? = some t) : accAt p l s ts i t s.length 0 = longer p l s (ts.take (i + 1)) := by
  unfold accAt
  rw [longer_take h, nextsTo_all, List.take_zero]
  simp [nextsAt]
theorem longer_take_le {p : Prices} {l : List Phrase} {s : Sent} {ts : List Tr} {i : Nat} : (longer p l s (ts.take i)).length ≤ (longer p l s ts).length := by
  have e : longer p l s ts = longer p l s (ts.take i) ++ longer p l s (ts.drop i) := by
    unfold longer
    rw [← List.flatMap_append, List.take_append_drop]
  rw [e, List.length_append]
  omega
theorem accAt_length {p : Prices} {l : List Phrase} {s : Sent} {ts : List Tr} {i : Nat} {t : Tr} {j m : Nat} (h : ts[i]? = some t) (hj : j < s.length) : (accAt p l s ts i t j m).length ≤ (longer p l s ts).length := by
  refine Nat.le_trans ?_ (longer_take_le (i := i + 1))
  rw [longer_take h]
  unfold accAt
  rw [List.length_append, List.length_append, List.length_map, List.length_map, List.length_append, ← nextsTo_all]
  have e1 : (nextsAt p (l.take m) s t.free t.ended j).length ≤ (nextsAt p l s t.free t.ended j).length := by
    unfold nextsAt
    rw [List.length_map, List.length_map]
    exact ((List.take_sublist m l).filter _).length_le
  have e2 := congrArg List.length (nextsTo_succ p l s t.free t.ended j)
  rw [List.length_append] at e2
  have e3 := nextsTo_mono (p := p) (l := l) (s := s) (f := t.free) (a := t.ended) (j := j + 1) (s.length - (j + 1))
  have e4 : j + 1 + (s.length - (j + 1)) = s.length := by omega
  rw [e4] at e3
  omega
/-- how many trails there are at most -/
def many : Nat → Nat
  | 0 => 1
  | n + 1 => many n * (6 * (5 - n))
theorem many_le : ∀ n, many n ≤ 933120
  | 0 => by decide
  | 1 => by decide
  | 2 => by decide
  | 3 => by decide
  | 4 => by decide
  | 5 => by decide
  | n + 6 => by
    have : many (n + 6) = 0 := by
      induction n with
      | zero => decide
      | succ n ih =>
        show many (n + 6) * _ = 0
        rw [ih, Nat.zero_mul]
    omega
theorem many_next {l : List Phrase} {s : Sent} (hl : l.length ≤ 6) (hs : s.length ≤ 5) {n k m : Nat} (h : k ≤ many n) (hm : m ≤ k * (l.length * (s.length - n))) : m ≤ many (n + 1) := by
  refine Nat.le_trans hm ?_
  show k * (l.length * (s.length - n)) ≤ many n * (6 * (5 - n))
  exact Nat.mul_le_mul h (Nat.mul_le_mul hl (by omega))
end Pw
namespace Pw
open Ut09
/-! Layer by layer; m: the words said matter -/
def stand (m : Bool) (a b : Tr) : Prop := a.free = b.free ∧ a.ended = b.ended ∧ (if m = true then a.words = b.words else a.last = b.last)
theorem stand.last {m : Bool} {a b : Tr} (h : stand m a b) : a.last = b.last := by
  cases m with
  | false => exact h.2.2
  | true =>
    unfold Tr.last
    rw [show a.words = b.words from h.2.2]
structure KeptM (m : Bool) (ts us : List Tr) : Prop where
  sub : ∀ u ∈ us, u ∈ ts
  all : ∀ t ∈ ts, ∃ u ∈ us, stand m u t ∧ better u t
def mayBe (want : Option Sent) (t : Tr) : Bool := match want with
  | none => true
  | some q => t.words == q.take t.words.length
theorem mayBe_of {want : Option Sent} {t : Tr} {u : Sent} (h : fits want (t.words ++ u)) : mayBe want t = true := by
  rcases h with rfl | rfl
  · rfl
  · show (t.words == (t.words ++ u).take t.words.length) = true
    rw [List.take_left]
    exact beq_self_eq_true _
structure LayW (p : Prices) (l : List Phrase) (s : Sent) (m : Bool) (want : Option Sent) (n : Nat) (ts ws : List Tr) : Prop where
  ok : ∀ t ∈ ts, TrOk p l s n t
  all : ∀ w c u, n ≤ w.length → wayCost p l s w = some (c, u) → fits want u → ∃ t ∈ ts, ∃ c' u', wayCost p l s (t.steps ++ w.drop n) = some (c', u') ∧ noLater c' (t.steps ++ w.drop n) c w ∧ (m = true → u' = u)
  snd : ∀ v ∈ ws, wayCost p l s v.steps = some (v.cost, v.words) ∧ v.words.length ≤ 3 * s.length ∧ v.steps.length ≤ s.length
  had : ∀ w c u, w.length < n → wayCost p l s w = some (c, u) → fits want u → ∃ v ∈ ws, noLater v.cost v.steps c w ∧ (m = true → v.words = u)
theorem layW_start (p : Prices) (l : List Phrase) (s : Sent) (m : Bool) (want : Option Sent) : LayW p l s m want 0 [start s] [] where
  ok := fun t ht => by
    have : t = start s := by simpa using ht
    rw [this]
    exact start_ok p l s
  all := fun w c u _ h _ => ⟨start s, by simp, c, u, by simpa [start] using h, noLater_refl _ _, fun _ => rfl⟩
  snd := fun v hv => by cases hv
  had := fun w c u h => by omega
theorem mem_longer {p : Prices} {l : List Phrase} {s : Sent} {ts : List Tr} {u : Tr} : u ∈ longer p l s ts ↔ ∃ t ∈ ts, ∃ i x, i < s.length ∧ x ∈ l ∧ may p s t.free t.ended i x = true ∧ u = stepped p t i x := by
  unfold longer
  rw [List.mem_flatMap]
  constructor
  · rintro ⟨t, ht, hu⟩
    obtain ⟨y, hy, rfl⟩ := List.mem_map.mp hu
    obtain ⟨h1, h2, h3⟩ := mem_nexts.mp hy
    exact ⟨t, ht, y.1, y.2, h1, h2, h3, rfl⟩
  · rintro ⟨t, ht, i, x, h1, h2, h3, rfl⟩
    exact ⟨t, ht, List.mem_map.mpr ⟨(i, x), mem_nexts.mpr ⟨h1, h2, h3⟩, rfl⟩⟩
/-- what a layer's whole trails are, closed -/
def wholes (p : Prices) (ts : List Tr) : List Tr := (ts.filter fun t => t.done).map fun t => closed p t
theorem layW_next {p : Prices} {l : List Phrase} (g : Good l) (ht3 : ∀ x ∈ l, x.target.length ≤ 3) {s : Sent} {m : Bool} {want : Option Sent} (hm : want = none ∨ m = true) {n : Nat} {ts us ws : List Tr} (L : LayW p l s m want n ts ws)
    (k : KeptM m ((longer p l s ts).filter fun t => mayBe want t) us) : LayW p l s m want (n + 1) us (ws ++ wholes p ts) := by
  have okL : ∀ u ∈ longer p l s ts, TrOk p l s (n + 1) u := fun u hu => by
    obtain ⟨t, ht, i, x, _, hx, hm, rfl⟩ := mem_longer.mp hu
    exact stepped_ok g (L.ok t ht) hx hm (ht3 _ hx)
  have okU : ∀ u ∈ us, TrOk p l s (n + 1) u := fun u hu => okL u (List.mem_filter.mp (k.sub u hu)).1
  refine ⟨okU, ?_, ?_, ?_⟩
  · intro w c u hw hwc hf
    obtain ⟨t, ht, c', u', h1, h2, h3⟩ := L.all w c u (by omega) hwc hf
    have hf' : fits want u' := by
      rcases hm with e | e
      · exact Or.inl e
      · rw [h3 e]
        exact hf
    have hd : w.drop n = w[n] :: w.drop (n + 1) := List.drop_eq_getElem_cons (by omega)
    generalize w[n] = a at hd
    obtain ⟨i, q⟩ := a
    rw [hd] at h1 h2
    have h1' := h1
    unfold wayCost at h1'
    rw [(L.ok t ht).val, Option.map_eq_some_iff] at h1'
    obtain ⟨y, hy, _⟩ := h1'
    obtain ⟨x, c1, t1, e, m1, _, _, _⟩ := goes_cons (c := y.1) (t := y.2) hy
    obtain ⟨hx, rfl⟩ := phraseOf_mem e
    have hin : stepped p t i x ∈ longer p l s ts := mem_longer.mpr ⟨t, ht, i, x, may_lt (g.src x hx) m1, hx, m1, rfl⟩
    have okS := okL _ hin
    have es : t.steps ++ (i, x.number) :: w.drop (n + 1) = (stepped p t i x).steps ++ w.drop (n + 1) := by
      show _ = (t.steps ++ [(i, x.number)]) ++ w.drop (n + 1)
      rw [List.append_assoc]
      rfl
    rw [es] at h1 h2
    unfold wayCost at h1
    rw [okS.val, Option.map_eq_some_iff] at h1
    obtain ⟨z, hz, ez⟩ := h1
    have eu : u' = (stepped p t i x).words ++ z.2 := (Prod.mk.inj ez).2.symm
    have ec : c' = (stepped p t i x).cost + z.1 := (Prod.mk.inj ez).1.symm
    obtain ⟨v, hv, st, hb⟩ := k.all _ (List.mem_filter.mpr ⟨hin, mayBe_of (by rw [← eu]; exact hf')⟩)
    have okV := okU v hv
    rw [← st.1, ← st.2.1, ← st.last] at hz
    refine ⟨v, hv, v.cost + z.1, v.words ++ z.2, ?_, ?_, fun e => ?_⟩
    · unfold wayCost
      rw [okV.val, hz]
      rfl
    · refine noLater_trans ?_ h2
      rw [ec]
      rcases hb with lt | ⟨eq, hb⟩
      · exact Or.inl (by omega)
      · refine Or.inr ⟨by omega, ?_⟩
        rcases hb with e | lt
        · exact Or.inl (by rw [e])
        · exact Or.inr (wayLt_append _ _ (by rw [okV.len, okS.len]) lt)
    · have sw := st.2.2
      rw [if_pos e] at sw
      rw [sw, ← eu]
      exact h3 e
  · intro v hv
    rcases List.mem_append.mp hv with hv | hv
    · exact L.snd v hv
    · obtain ⟨t, ht, rfl⟩ := List.mem_map.mp hv
      obtain ⟨ht, hd⟩ := List.mem_filter.mp ht
      have o := L.ok t ht
      have := o.fc
      have := o.wl
      have := o.len
      exact ⟨done_way o hd, by show t.words.length ≤ _; omega, by show t.steps.length ≤ _; omega⟩
  · intro w c u hw hwc hf
    rcases Nat.lt_or_ge w.length n with h | h
    · obtain ⟨v, hv, r⟩ := L.had w c u h hwc hf
      exact ⟨v, List.mem_append_left _ hv, r⟩
    · obtain ⟨t, ht, c', u', h1, h2, h3⟩ := L.all w c u h hwc hf
      rw [List.drop_eq_nil_of_le (by omega), List.append_nil] at h1 h2
      have hd := way_done (L.ok t ht) h1
      have e1 := done_way (L.ok t ht) hd
      rw [h1] at e1
      obtain ⟨ec, eu⟩ := Prod.mk.inj (Option.some.inj e1)
      refine ⟨closed p t, List.mem_append_right _ (List.mem_map.mpr ⟨t, List.mem_filter.mpr ⟨ht, hd⟩, rfl⟩), ?_, fun e => ?_⟩
      · show noLater (t.cost + pairCost p t.last 0) t.steps c w
        rw [← ec]
        exact h2
      · show t.words = u
        rw [← eu]
        exact h3 e
theorem layW_few {p : Prices} {l : List Phrase} {s : Sent} {m : Bool} {want : Option Sent} {n : Nat} {ts ws : List Tr} (L : LayW p l s m want n ts ws) (h : ts ≠ []) : n ≤ s.length := by
  cases ts with
  | nil => exact (h rfl).elim
  | cons t ts =>
    have := (L.ok t (List.mem_cons_self)).fc
    omega
/-- at the end -/
structure AllWays (p : Prices) (l : List Phrase) (s : Sent) (m : Bool) (want : Option Sent) (ws : List Tr) : Prop where
  snd : ∀ v ∈ ws, wayCost p l s v.steps = some (v.cost, v.words) ∧ v.words.length ≤ 3 * s.length ∧ v.steps.length ≤ s.length
  had : ∀ w c u, wayCost p l s w = some (c, u) → fits want u → ∃ v ∈ ws, noLater v.cost v.steps c w ∧ (m = true → v.words = u)
theorem layW_end {p : Prices} {l : List Phrase} {s : Sent} {m : Bool} {want : Option Sent} {n : Nat} {ws : List Tr} (L : LayW p l s m want n [] ws) : AllWays p l s m want ws where
  snd := L.snd
  had := fun w c u h hf => by
    rcases Nat.lt_or_ge w.length n with q | q
    · exact L.had w c u q h hf
    · obtain ⟨t, ht, _⟩ := L.all w c u q h hf
      cases ht
/-- the first of the cheapest -/
def LeastOf (ws : List Tr) (b : Option Tr) : Prop := (b = none ∧ ws = []) ∨ ∃ t, b = some t ∧ t ∈ ws ∧ ∀ v ∈ ws, better t v
def fitsB (want : Option Sent) (t : Sent) : Bool := match want with
  | none => true
  | some q => t == q
theorem fitsB_iff {want : Option Sent} {t : Sent} : fitsB want t = true ↔ fits want t := by
  cases want with
  | none => exact ⟨fun _ => Or.inl rfl, fun _ => rfl⟩
  | some q =>
    show (t == q) = true ↔ _
    rw [beq_iff_eq]
    constructor
    · rintro rfl
      exact Or.inr rfl
    · rintro (h | h)
      · cases h
      · exact (Option.some.inj h).symm
theorem translate_least {p : Prices} {l : List Phrase} (g : Good l) {s : Sent} {m : Bool} {want : Option Sent} (hm : want = none ∨ m = true) {ws : List Tr} (W : AllWays p l s m want ws) {b : Option Tr} (hb : LeastOf (ws.filter fun v => fitsB want v.words) b) : translate p l s want = b.map found := by
  obtain ⟨t1, t2⟩ := translate_is (p := p) g s want
  have had : ∀ w c u, wayCost p l s w = some (c, u) → fits want u → ∃ v ∈ ws.filter fun v => fitsB want v.words, noLater v.cost v.steps c w := by
    intro w c u h hf
    obtain ⟨v, hv, h1, h2⟩ := W.had w c u h hf
    refine ⟨v, List.mem_filter.mpr ⟨hv, fitsB_iff.mpr ?_⟩, h1⟩
    rcases hm with e | e
    · exact Or.inl e
    · rw [h2 e]
      exact hf
  rcases hb with ⟨rfl, e⟩ | ⟨t, rfl, ht, hl⟩
  · refine t1.mpr fun w c u h hf => ?_
    obtain ⟨v, hv, _⟩ := had w c u h hf
    rw [e] at hv
    cases hv
  · obtain ⟨ht, hf⟩ := List.mem_filter.mp ht
    refine (t2 t.cost t.steps t.words).mpr ⟨(W.snd t ht).1, fitsB_iff.mp hf, fun w c u h hf => ?_⟩
    obtain ⟨v, hv, h1⟩ := had w c u h hf
    exact noLater_trans (hl v hv) h1
/-- of each sentence the first -/
structure KeptW (ts us : List Tr) : Prop where
  sub : ∀ u ∈ us, u ∈ ts
  all : ∀ t ∈ ts, ∃ u ∈ us, u.words = t.words ∧ better u t
  nd : (us.map fun u => u.words).Nodup
theorem nodup_words {us : List Tr} (h : (us.map fun u => u.words).Nodup) {a b : Tr} (ha : a ∈ us) (hb : b ∈ us) (e : a.words = b.words) : a = b := by
  induction us with
  | nil => cases ha
  | cons x us ih =>
    rw [List.map_cons, List.nodup_cons] at h
    rcases List.mem_cons.mp ha with rfl | ha'
    · rcases List.mem_cons.mp hb with rfl | hb'
      · rfl
      · exact (h.1 (by rw [e]; exact List.mem_map_of_mem hb')).elim
    · rcases List.mem_cons.mp hb with rfl | hb'
      · exact (h.1 (by rw [← e]; exact List.mem_map_of_mem ha')).elim
      · exact ih h.2 ha' hb'
theorem sentences_sorted {p : Prices} {l : List Phrase} (g : Good l) {s : Sent} {ws us out : List Tr} (W : AllWays p l s true none ws) (k : KeptW ws us) (hp : out.Perm us) (ho : out.Pairwise fun a b => better a b) : sentences p l s = out.map found := by
  obtain ⟨r1, r2⟩ := sentences_is (p := p) g s
  have sndU : ∀ u ∈ us, wayCost p l s u.steps = some (u.cost, u.words) := fun u hu => (W.snd u (k.sub u hu)).1
  refine eq_of_up foundLt_irrefl (fun h1 h2 => foundLt_trans h1 h2) r1 ?_ fun y => (r2 y).trans ?_
  · have nd : (out.map fun u => u.words).Nodup := (hp.map _).nodup_iff.mpr k.nd
    unfold List.Nodup at nd
    rw [List.pairwise_map] at nd ⊢
    have both := List.Pairwise.and ho nd
    refine List.Pairwise.imp_of_mem ?_ both
    intro a b ha hb ⟨h1, h2⟩
    have ea := sndU a (hp.mem_iff.mp ha)
    have eb := sndU b (hp.mem_iff.mp hb)
    rcases h1 with h1 | ⟨h1, h3 | h3⟩
    · exact Or.inl h1
    · rw [h3, eb] at ea
      exact (h2 (Prod.mk.inj (Option.some.inj ea)).2.symm).elim
    · exact Or.inr ⟨h1, h3⟩
  · constructor
    · rintro ⟨h1, h2⟩
      obtain ⟨v, hv, v1, v2⟩ := W.had y.2.1 y.1 y.2.2 h1 (Or.inl rfl)
      obtain ⟨u, hu, u1, u2⟩ := k.all v hv
      have eu := sndU u hu
      have e : u.words = y.2.2 := u1.trans (v2 rfl)
      rw [e] at eu
      obtain ⟨e1, e2⟩ := noLater_anti (h2 _ _ eu) (noLater_trans u2 v1)
      refine List.mem_map.mpr ⟨u, hp.mem_iff.mpr hu, ?_⟩
      unfold found
      rw [← e1, ← e2, e]
    · intro hy
      obtain ⟨u, hu, rfl⟩ := List.mem_map.mp hy
      have hu := hp.mem_iff.mp hu
      refine ⟨sndU u hu, fun w c h => ?_⟩
      obtain ⟨v, hv, v1, v2⟩ := W.had w c u.words h (Or.inl rfl)
      obtain ⟨u', hu', w1, w2⟩ := k.all v hv
      have : u' = u := nodup_words k.nd hu' hu (w1.trans (v2 rfl))
      subst this
      exact noLater_trans w2 v1
/-! a way that is handed in, step by step -/
theorem cost_no_phrase {p : Prices} {l : List Phrase} {s : Sent} {n : Nat} {t : Tr} (h : TrOk p l s n t) {i k : Nat} {r : Way} (e : phraseOf l k = none) : wayCost p l s (t.steps ++ (i, k) :: r) = none := by
  unfold wayCost
  rw [h.val]
  unfold goes
  rw [e]
  rfl
theorem cost_no_may {p : Prices} {l : List Phrase} {s : Sent} {n : Nat} {t : Tr} (h : TrOk p l s n t) {i k : Nat} {r : Way} {x : Phrase} (e : phraseOf l k = some x) (m : may p s t.free t.ended i x = false) : wayCost p l s (t.steps ++ (i, k) :: r) = none := by
  unfold wayCost
  rw [h.val]
  unfold goes
  simp only [e, m, if_true, Option.map_none]
theorem cost_done {p : Prices} {l : List Phrase} {s : Sent} {n : Nat} {t : Tr} (h : TrOk p l s n t) : wayCost p l s t.steps = if t.done = true then some ((closed p t).cost, (closed p t).words) else none := by
  by_cases c : t.done = true
  · rw [if_pos c]
    exact done_way h c
  · rw [if_neg c]
    cases e : wayCost p l s t.steps with
    | none => rfl
    | some r => exact (c (way_done h e)).elim
end Pw
set_option Elab.async false
set_option maxRecDepth 100000
set_option maxHeartbeats 4000000
namespace Pw
open PySem L2 PyProof.Rows
/-! two lists of ints in order -/
theorem firstLt_ints : ∀ (ns ms : List Int) (o : Nat) (e r : Nat → Bool), (∀ j, e (o + j) = (ns.getD j 0 == ms.getD j 0)) → (∀ j, r (o + j) = decide (ns.getD j 0 < ms.getD j 0)) →
    SeqAt.firstLt e r (decide (ns.length < ms.length)) ((List.range' o (min ns.length ms.length))) = HT.lexLt ns ms
  | [], [], o, e, r, _, _ => rfl
  | [], m :: ms, o, e, r, _, _ => by simp [SeqAt.firstLt, HT.lexLt]
  | n :: ns, [], o, e, r, _, _ => by simp [SeqAt.firstLt, HT.lexLt]
  | n :: ns, m :: ms, o, e, r, he, hr => by
    have h0 := he 0
    have r0 := hr 0
    simp only [Nat.add_zero, List.getD_cons_zero] at h0 r0
    have hm : min (n :: ns).length (m :: ms).length = min ns.length ms.length + 1 := by simp only [List.length_cons]; omega
    rw [hm, List.range'_succ, HT.lexLt_cons]
    by_cases c : n = m
    · rw [if_pos c, SeqAt.firstLt_yes (by rw [h0]; simpa using c)]
      have ih := firstLt_ints ns ms (o + 1) e r (fun j => by have := he (j + 1); simpa [Nat.add_assoc, Nat.add_comm 1 j] using this) (fun j => by have := hr (j + 1); simpa [Nat.add_assoc, Nat.add_comm 1 j] using this)
      simpa using ih
    · rw [if_neg c, SeqAt.firstLt_no (by rw [h0]; simpa using c), r0]
theorem intsAre_get : ∀ {us : List Value} {ns : List Int}, IntsAre us ns → us.length = ns.length ∧ ∀ j (h : j < us.length), ∃ t, us[j] = .int (ns.getD j 0) t
  | [], [], _ => ⟨rfl, fun j h => by simp at h⟩
  | _ :: us, _ :: ns, .cons n t r => by
    obtain ⟨l, g⟩ := intsAre_get r
    refine ⟨by simp [l], fun j h => ?_⟩
    cases j with
    | zero => exact ⟨t, rfl⟩
    | succ j => simpa using g j (by simpa using h)
def rLtL (K : PySem.W.Frag) : R2 := fun x y H Q => ∃ (a b : Addr) (ns ms : List Int), x = .ref a ∧ y = .ref b ∧ SqL K H a (ns.map V.int) ∧ SqL K H b (ms.map V.int) ∧ Q (.bl (HT.lexLt ns ms)) H
theorem op_ltL {X : Cx} (hu : X.A.units < cLine) : OpR X (compareOp .Lt) (rLtL X.K) := by
  intro pins s σ H x y v u Q I rx ry h
  obtain ⟨a, b, ns, ms, rfl, rfl, ha, hb, q⟩ := h
  cases rx
  cases ry
  obtain ⟨its, r1, p1, _⟩ := I.list ha
  obtain ⟨its2, r2, p2, _⟩ := I.list hb
  obtain ⟨l1, g1⟩ := intsAre_get (intsAre_of r1)
  obtain ⟨l2, g2⟩ := intsAre_get (intsAre_of r2)
  have key := SeqAt.RcLt.lists (A := X.A) (s := s) (l := a) (b := b) (items := its.toArray) (items2 := its2.toArray) (e := fun j => ns.getD j 0 == ms.getD j 0) (r := fun j => decide (ns.getD j 0 < ms.getD j 0))
    p1.isList p2.isList hu (fun j h1 h2 => by
      obtain ⟨t, e1⟩ := g1 j (by simpa using h1)
      obtain ⟨t', e2⟩ := g2 j (by simpa using h2)
      simp only [List.getElem_toArray, e1, e2]
      exact SeqAt.EqAt.int_int _ _ _ _) (fun j h1 h2 _ => by
      obtain ⟨t, e1⟩ := g1 j (by simpa using h1)
      obtain ⟨t', e2⟩ := g2 j (by simpa using h2)
      simp only [List.getElem_toArray, e1, e2]
      exact fun prog w E Q h => PyProof.Rows.lt_int h)
  refine key X.prog X.w _ _ ?_
  have e : SeqAt.firstLt (fun j => ns.getD j 0 == ms.getD j 0) (fun j => decide (ns.getD j 0 < ms.getD j 0)) (decide (its.toArray.size < its2.toArray.size)) (List.range (min its.toArray.size its2.toArray.size)) = HT.lexLt ns ms := by
    rw [List.size_toArray, List.size_toArray, l1, l2, List.range_eq_range']
    exact firstLt_ints ns ms 0 _ _ (fun j => by simp) (fun j => by simp)
  rw [e]
  exact ⟨.bl (HT.lexLt ns ms), H, I, rfl, q⟩
/-! list(o.values()) of a dict with tuple keys -/
section
open PySem.Spec
variable {X : Cx} {o : Expr} {p pos apos mpos : Pos} {td : TE}
def tListVals (td : TE) : TE := fun σ H Q => td σ H fun x H1 => ∃ (d : Addr) (kvs : List (List Key × V)), x = V.ref d ∧ H1 d = some (.dT kvs) ∧ ∀ q, H1 q = none → Q (.ref q) (upd H1 q (.lst (kvs.map (·.2))))
theorem KT_vals {H : Hp} : ∀ {kvs : List (List Key × V)} {xs : List (List Key × Addr × Value)}, KT H kvs xs → Vals (kvs.map (·.2)) (xs.map fun x => x.2.2) := by
  intro kvs xs r
  induction r with
  | nil => exact .nil
  | cons h t ih => exact .cons h.2.2 ih
theorem pe_listVals (hc : X.calm = true) (hg : Gl X "list") (hm : X.mg "list" = none) (hd : PE X o td) (hbase : attributeBase o "values" X.env (eval o X.env) = eval o X.env := by rfl) (hline : (apos.endLine == mpos.line) = true := by rfl)
    (na : starEach [Expr.Call (.Attribute o "values" apos) [] [] mpos] X.env = (false, eval (Expr.Call (.Attribute o "values" apos) [] [] mpos) X.env) :: starEach [] X.env := by rfl) :
    PE X (.Call (.Name "list" p) [.Call (.Attribute o "values" apos) [] [] mpos] [] pos) (tListVals td) := by
  refine ⟨fun pins s σ H Q I h => ?_⟩
  refine Call_ (ld_blt I hg hm boot_list (PyProof.Rows.callWith_type1 (args_cons (wpAny_Call_method0_late hbase hline (thn (hd.run pins s σ H _ I h) fun v s1 ⟨x, H1, I1, r1, d, kvs, ex, ha, q⟩ => ?_)) na) na))
  subst ex
  obtain rfl : v = Value.ref d := r1
  obtain ⟨hz, hsys, xs, rel, dof⟩ := dt_of I1.hok ha
  obtain ⟨es, ep, raw, hes, hat⟩ := dof.raw
  have hT := raw.typeIs (s := s1)
  obtain ⟨ob, ho, hx, hdt⟩ := id raw
  refine ⟨"dict", "dict.values", F.plainAttrs_dict, F.slot_dict_values, F.type_dict_values, ⟨ob, ho, hx.1⟩, fun b e => ?_, Calls.callWith_builtin rfl (PySem.evalArgs_none ?_)⟩
  · cases e
    exact ⟨ob, ho, hx.2.1⟩
  refine call_meetsIn F.slot_dict_values ⟨ob, ho, hx.1⟩ F.entry_dict_values (F.args_dict_values_1 _) (meets_dict_values_raw d hsys) ⟨⟨es, ep, raw⟩, ?_⟩
  refine args_nil ?_
  have kp1 : ∀ b u, s1.heap.get? b = some u → (s1.heap.push { cls := .type "dict_values", data := .fields #[.ref d] }).get? b = some u := fun b u e => Heap.get?_push_of_some _ e
  have I2 : Inv X pins σ H1 { s1 with heap := s1.heap.push { cls := .type "dict_values", data := .fields #[.ref d] } } := I1.kept (t' := s1.toks) kp1
  have lk : kvs.length = xs.length := Paired.length rel
  refine PySem.W.kdl_call (KdlSrc.rawValues (r := s1.heap.objs.size) (d := d) (es := es) (ep := ep)) (I.ok.hd hc) ⟨⟨_, Heap.get?_push_size _ rfl, rfl, rfl⟩, raw.at fun u e => kp1 d u e⟩ (by omega) fun h' tk acc' c' kp e it => ?_
  have hl : acc'.toList.length = xs.length := by rw [Array.length_toList, it.1]; exact hes
  have rv : Vals (kvs.map (·.2)) acc'.toList := by
    have ea : acc'.toList = xs.map fun x => x.2.2 := by
      apply List.ext_getElem?
      intro j
      rw [List.getElem?_map]
      cases hj : acc'.toList[j]? with
      | none =>
        have h1 := List.getElem?_eq_none_iff.mp hj
        rw [List.getElem?_eq_none (by omega)]
        rfl
      | some v =>
        obtain ⟨hi, hv⟩ := it.2 j v (by rw [← Array.getElem?_toList]; exact hj)
        obtain ⟨y, hy, _, hyv, _⟩ := hat j hi
        rw [hy, hv, hyv]
        rfl
    rw [ea]
    exact KT_vals rel
  refine ⟨.ref _, _, I2.laid (t' := tk) (o := .lst (kvs.map (·.2))) kp (Nat.le_refl _) ?_, rfl, q _ (I2.hok.fresh (Nat.le_refl _))⟩
  exact ⟨by rw [List.length_map]; exact hz, acc'.toList, c', rv, by rw [Array.toArray_toList]; exact e⟩
end
end Pw
set_option Elab.async false
set_option maxRecDepth 100000
set_option maxHeartbeats 4000000
namespace Pw
open PySem
/-! keys: tuples of ints and of tuples of ints -/
abbrev NK := List (Int ⊕ List Int)
section
variable {prog : Program} {w : World}
inductive NItem (prog : Program) (w : World) (h : Heap) : (Int ⊕ List Int) → Value → Prop
  | int (i : Int) (t : Tok) : NItem prog w h (.inl i) (.int i t)
  | tup {l : List Int} {b : Addr} : IsTupleKey (intKind prog w) h l b → NItem prog w h (.inr l) (.ref b)
def IsNK (prog : Program) (w : World) (h : Heap) (ks : NK) (a : Addr) : Prop := ∃ ob its n, h.get? a = some ob ∧ ob.cls = .type "tuple" ∧ ob.data = .seq its n ∧ Paired (NItem prog w h) ks its.toList
theorem NItem.inj {h : Heap} {v : Value} {x y : Int ⊕ List Int} (a : NItem prog w h x v) (b : NItem prog w h y v) : x = y := by
  cases a with
  | int i t => cases b; rfl
  | tup p =>
    cases b with
    | tup q => rw [p.inj q]
theorem NItems.inj {h : Heap} : ∀ {x y : NK} {vs : List Value}, Paired (NItem prog w h) x vs → Paired (NItem prog w h) y vs → x = y
  | _, _, _, .nil, .nil => rfl
  | _, _, _, .cons a r, .cons b r' => by rw [NItem.inj a b, NItems.inj r r']
theorem IsNK.inj {h : Heap} {a : Addr} {x y : NK} (p : IsNK prog w h x a) (q : IsNK prog w h y a) : x = y := by
  obtain ⟨o, its, n, e, _, d, r⟩ := p
  obtain ⟨o', its', n', e', _, d', r'⟩ := q
  have eo : o = o' := Option.some.inj (e.symm.trans e')
  subst eo
  have ed := d.symm.trans d'
  injection ed with e1 _
  subst e1
  exact NItems.inj r r'
theorem IsNK.keeps {h h' : Heap} {k : NK} {a d : Addr} {o : Obj} {es ep} (p : IsNK prog w h k a) (e : h.get? d = some o) (hd : o.data = .dict es ep) (sb : Heap.SameBut d h h') : IsNK prog w h' k a := by
  obtain ⟨o1, its, n, e1, c1, d1, r⟩ := p
  have ne : a ≠ d := fun q => by
    rw [q, e] at e1
    have eo := Option.some.inj e1
    rw [← eo, hd] at d1
    cases d1
  exact ⟨o1, its, n, (sb.2 a ne).trans e1, c1, d1, L2.Paired.mapP r fun x v q => by
    cases q with
    | int i t => exact .int i t
    | tup p => exact .tup (p.keeps e hd sb)⟩
/-- as data -/
def nkD : (Int ⊕ List Int) → PyData
  | .inl i => .int i
  | .inr l => .tuple (l.map .int)
theorem reads_ints {h : Heap} : ∀ {l : List Int} {vs : List Value}, ItemsAre (intKind prog w) l vs → ReadsAll h vs (l.map .int) []
  | [], _, r => by
    cases r
    exact .nil
  | i :: l, _, r => by
    cases r with
    | cons e r =>
      obtain ⟨t, rfl⟩ := Value.isInt_shape e
      exact ReadsAll.cons (as := []) (bs := []) (.int i t) (reads_ints r)
theorem reads_item {h : Heap} {x : Int ⊕ List Int} {v : Value} (p : NItem prog w h x v) : Reads h v (nkD x) [] := by
  cases p with
  | int i t => exact .int i t
  | tup p =>
    obtain ⟨o, its, n, e, c, d, r⟩ := p
    exact .tuple e c d (reads_ints r)
theorem reads_items {h : Heap} : ∀ {ks : NK} {vs : List Value}, Paired (NItem prog w h) ks vs → ReadsAll h vs (ks.map nkD) []
  | _, _, .nil => .nil
  | _, _, .cons a r => ReadsAll.cons (as := []) (bs := []) (reads_item a) (reads_items r)
theorem IsNK.reads {h : Heap} {ks : NK} {a : Addr} (p : IsNK prog w h ks a) : Reads h (.ref a) (.tuple (ks.map nkD)) [] := by
  obtain ⟨o, its, n, e, c, d, r⟩ := p
  exact .tuple e c d (reads_items r)
theorem lay_ints (l : List Int) : PyData.canLayAll0 (l.map .int) = true ∧ PyData.depthAll (l.map .int) = 0 := by
  induction l with
  | nil => exact ⟨rfl, rfl⟩
  | cons i l ih =>
    rw [List.map_cons]
    simp only [PyData.canLayAll0, PyData.canLay0, PyData.depthAll, PyData.depth, ih.1, ih.2, Bool.and_true]
    exact ⟨trivial, rfl⟩
theorem lay_item (x : Int ⊕ List Int) : (nkD x).canLay0 = true ∧ (nkD x).depth ≤ 1 := by
  cases x with
  | inl i => exact ⟨rfl, by simp [nkD, PyData.depth]⟩
  | inr l =>
    have := lay_ints l
    simp only [nkD, PyData.canLay0, PyData.depth, this.1, this.2]
    exact ⟨trivial, by omega⟩
theorem lay_nk (ks : NK) : PyData.canLay0 (.tuple (ks.map nkD)) = true ∧ PyData.depth (.tuple (ks.map nkD)) ≤ 2 := by
  have h : PyData.canLayAll0 (ks.map nkD) = true ∧ PyData.depthAll (ks.map nkD) ≤ 1 := by
    induction ks with
    | nil => exact ⟨rfl, by simp [PyData.depthAll]⟩
    | cons x ks ih =>
      have := lay_item x
      rw [List.map_cons]
      simp only [PyData.canLayAll0, PyData.depthAll, this.1, ih.1, Bool.and_true]
      refine ⟨trivial, ?_⟩
      have h1 := this.2
      have h2 := ih.2
      omega
  simp only [PyData.canLay0, PyData.depth, h.1]
  exact ⟨trivial, by omega⟩
theorem eqv_intsI : ∀ a b : List Int, PyData.eqvAll (a.map .int) (b.map .int) = decide (a = b)
  | [], [] => by simp [PyData.eqvAll]
  | [], _ :: _ => by simp [PyData.eqvAll]
  | _ :: _, [] => by simp [PyData.eqvAll]
  | x :: a, y :: b => by
    rw [List.map_cons, List.map_cons, PyData.eqvAll, eqv_intsI a b]
    by_cases c : x = y
    · subst c
      simp [PyData.eqv]
    · simp [PyData.eqv, c]
theorem eqv_item (x y : Int ⊕ List Int) : PyData.eqv (nkD x) (nkD y) = decide (x = y) := by
  cases x with
  | inl i =>
    cases y with
    | inl j =>
      simp only [nkD, PyData.eqv, Sum.inl.injEq]
      rw [Bool.eq_iff_iff, beq_iff_eq, decide_eq_true_eq]
    | inr l => simp [nkD, PyData.eqv]
  | inr l =>
    cases y with
    | inl j => simp [nkD, PyData.eqv]
    | inr m =>
      show PyData.eqv (.tuple (l.map .int)) (.tuple (m.map .int)) = _
      rw [PyData.eqv, eqv_intsI]
      simp
theorem eqv_nk (x y : NK) : PyData.eqv (.tuple (x.map nkD)) (.tuple (y.map nkD)) = decide (x = y) := by
  rw [PyData.eqv]
  induction x generalizing y with
  | nil =>
    cases y with
    | nil => simp [PyData.eqvAll]
    | cons b y => simp [PyData.eqvAll]
  | cons a x ih =>
    cases y with
    | nil => simp [PyData.eqvAll]
    | cons b y =>
      rw [List.map_cons, List.map_cons, PyData.eqvAll, ih y, eqv_item]
      by_cases c : a = b
      · subst c
        simp
      · simp [c]
/-! hash -/
def hItem (prog : Program) (w : World) : (Int ⊕ List Int) → Int
  | .inl i => hashInt i
  | .inr l => tupleKeyHash (intKind prog w) l
def dItem : (Int ⊕ List Int) → Nat
  | .inl _ => 1
  | .inr l => l.length + 1
def dAll (ks : NK) : Nat := (ks.map dItem).sum
variable {A : Around} {E : Value → Shared → Prop} {s : Shared}
theorem hash_item {x : Int ⊕ List Int} {v : Value} {Q : Int → Shared → Prop} (hu : A.units < cLine) (p : NItem prog w s.heap x v) (h : Q (hItem prog w x) { s with toks := s.toks + dItem x }) : wpAny (model prog w) A (pyHash v) Q E s := by
  cases p with
  | int i t => exact (intKind prog w).pyHash (k := i) (by simp [intKind, Value.isInt]) h
  | tup p => exact wpAny_pyHash_tuple hu p h
theorem hash_nk {ks : NK} {a : Addr} {Q : Int → Shared → Prop} (hu : A.units + 1 < cLine) (p : IsNK prog w s.heap ks a) (k : Q (reduceHash (Builtin.Tuple.tupleHashOf (ks.map (hItem prog w)))) { s with toks := s.toks + (dAll ks + 1) }) :
    wpAny (model prog w) A (pyHash (.ref a)) Q E s := by
  obtain ⟨ob, its, n, e, c, d, r⟩ := p
  have ty : s.TypeIs (.ref a) "tuple" := ⟨ob, e, c⟩
  unfold pyHash
  try unfold pyHashByItsType
  try refine wpAny_bind (wpAny_cRoomFor_or (.inr (by omega)) ?_)
  refine wpAny_bind (wpAny_specialOf ty F.slot_tuple_hash.lookup ?_)
  change wpAny (model prog w) A (if (some (Value.builtin "tuple.__hash__") == some Value.none) = true then _ else _) Q E s
  rw [beq_builtin_none, if_neg Bool.false_ne_true]
  refine wpAny_bind (wpAny_specialOf ty F.slot_tuple_hash.lookup ?_)
  change wpAny (model prog w) A (callSpecialIfBoundUnlessNone? (.ref a) "__hash__" _ >>= _) Q E s
  refine wpAny_bind (wpAny_callSpecialIfBoundUnlessNone?_slot ty F.slot_tuple_hash ?_)
  refine wpAny_call_entry F.slot_tuple_hash ty F.entry_tuple_hash ?_ (F.args_tuple_hash_1 _)
  change wpAny (model prog w) A.in1 (Builtin.Tuple.tupleItemsOf (.ref a) >>= _) _ _ s
  refine wpAny_bind (wpAny_tupleItemsOf e d (wpAny_bind ?_))
  rw [← Array.forIn_toList]
  refine wpAny_forIn_list _ (fun rest (acc : Array Int) s' => ∃ front back, ks = front ++ back ∧ Paired (NItem prog w s.heap) back rest ∧ acc.toList = front.map (hItem prog w) ∧ s' = { s with toks := s.toks + dAll front }) _ ?_ ?_ _ _ ⟨[], ks, rfl, r, rfl, rfl⟩
  · rintro v rest acc s' ⟨front, back, rfl, hb, ha, rfl⟩
    cases hb with
    | @cons x _ back' _ hx hb' =>
      have more : dAll (front ++ [x]) = dAll front + dItem x := by simp [dAll]
      refine wpAny_bind (hash_item (A := A.in1) hu hx ?_)
      have fin : ∃ f' b', front ++ x :: back' = f' ++ b' ∧ Paired (NItem prog w s.heap) b' rest ∧ (acc.push (hItem prog w x)).toList = f'.map (hItem prog w) ∧ ({ s with toks := s.toks + dAll front + dItem x } : Shared) = { s with toks := s.toks + dAll f' } :=
        ⟨front ++ [x], back', by simp, hb', by simp [ha], by rw [more, Nat.add_assoc]⟩
      first
        | exact wpAny_pure fin
        | exact wpAny_bind (wpAny_pure (wpAny_pure fin))
  · rintro acc s' ⟨front, back, rfl, hb, ha, rfl⟩
    cases hb
    rw [List.append_nil] at k
    change wpAny (model prog w) A.in1 (retInt (Builtin.Tuple.tupleHashOf acc.toList)) _ _ _
    rw [ha]
    refine wpAny_ret_mkInt ?_
    generalize Builtin.Tuple.tupleHashOf (front.map (hItem prog w)) = z at k ⊢
    change wpAny (model prog w) A (if (decide (-(2 : Int) ^ 63 ≤ z) && decide (z < 2 ^ 63)) = true then _ else _) Q E _
    unfold reduceHash at k
    cases hz : (decide (-(2 : Int) ^ 63 ≤ z) && decide (z < 2 ^ 63)) with
    | true =>
      rw [hz, if_pos rfl] at k
      rw [if_pos rfl]
      exact wpAny_pure (by simpa [Nat.add_assoc] using k)
    | false =>
      rw [hz, if_neg Bool.false_ne_true] at k
      rw [if_neg Bool.false_ne_true]
      exact wpAny_bind (wpAny_rule (wpAny_pure (by simpa [Nat.add_assoc] using k)))
/-! quiet -/
theorem quiet_tuple {m : Nat} {a : Addr} {ob : Obj} {its : Array Value} {n : Nat} {Q : Bool → Shared → Prop} (e : s.heap.get? a = some ob) (c : ob.cls = .type "tuple") (d : ob.data = .seq its n)
    (each : ∀ v ∈ its.toList, ∀ Q' : Bool → Shared → Prop, Q' true s → wpAny (model prog w) A (eqIsQuiet m v) Q' E s) (k : Q true s) : wpAny (model prog w) A (eqIsQuiet (m + 1) (.ref a)) Q E s := by
  have ty : s.TypeIs (.ref a) "tuple" := ⟨ob, e, c⟩
  unfold eqIsQuiet
  refine wpAny_bind (wpAny_specialOf ty F.slot_tuple_eq.lookup ?_)
  change wpAny (model prog w) A (isInstance (.ref a) (.type "tuple") >>= _) _ _ s
  refine wpAny_bind (wpAny_isInstance ty isSubtype_tuple_tuple ?_)
  simp only [Bool.not_true, Bool.false_eq_true, if_false]
  refine wpAny_bind (wpAny_seqItems e d (wpAny_bind ?_))
  change wpAny (model prog w) A (forIn its _ _) _ _ s
  rw [← Array.forIn_toList]
  refine wpAny_forIn_list _ (fun rest z s' => z.1 = none ∧ s' = s ∧ ∀ v ∈ rest, v ∈ its.toList) _ ?_ ?_ _ _ ⟨rfl, rfl, fun _ h => h⟩
  · rintro v rest z s' ⟨hz, rfl, sub⟩
    refine wpAny_bind (each v (sub v List.mem_cons_self) _ ?_)
    simp only [Bool.not_true, Bool.false_eq_true, if_false]
    exact wpAny_pure ⟨rfl, rfl, fun u hu => sub u (List.mem_cons_of_mem _ hu)⟩
  · rintro ⟨z1, z2⟩ s' ⟨hz, rfl, _⟩
    simp only at hz
    subst hz
    exact wpAny_pure k
theorem quiet_nk {ks : NK} {a : Addr} {Q : Bool → Shared → Prop} (p : IsNK prog w s.heap ks a) (k : Q true s) : wpAny (model prog w) A (eqIsQuiet 8 (.ref a)) Q E s := by
  obtain ⟨ob, its, n, e, c, d, r⟩ := p
  refine quiet_tuple e c d (fun v hv Q' q => ?_) k
  have : ∃ x, NItem prog w s.heap x v := by
    clear e c d k
    generalize its.toList = l at r hv
    induction r with
    | nil => cases hv
    | cons h t ih =>
      rcases List.mem_cons.mp hv with rfl | hv
      · exact ⟨_, h⟩
      · exact ih hv
  obtain ⟨x, hx⟩ := this
  cases hx with
  | int i t =>
    rw [eqIsQuiet_byValue _ rfl]
    exact wpAny_pure q
  | tup p =>
    obtain ⟨o2, its2, n2, e2, c2, d2, r2⟩ := p
    refine quiet_tuple e2 c2 d2 (fun u hu Q2 q2 => ?_) q
    rw [eqIsQuiet_byValue _ (r2.byValue u hu)]
    exact wpAny_pure q2
theorem eqBool_nk {x y : NK} {a b : Addr} {Q : Bool → Shared → Prop} (hu : A.units + 2 < cLine) (p : IsNK prog w s.heap x a) (q : IsNK prog w s.heap y b) (k : Q (decide (x = y)) s) : wpAny (model prog w) A (eqBool (.ref a) (.ref b)) Q E s := by
  have h1 := lay_nk x
  have h2 := lay_nk y
  refine SeqAt.eqAt_reads _ _ A s _ _ _ _ p.reads q.reads h1.1 h2.1 ?_ prog w E Q ?_
  · have := Nat.min_le_left (PyData.depth (.tuple (x.map nkD))) (PyData.depth (.tuple (y.map nkD)))
    omega
  · rw [eqv_nk]
    exact k
end
def nestKind (prog : Program) (w : World) : HeapKind prog w NK where
  is := IsNK prog w
  hash := fun ks => reduceHash (Builtin.Tuple.tupleHashOf (ks.map (hItem prog w)))
  draws := fun ks => dAll ks + 1
  room := fun A => A.units + 2 < cLine
  inj := fun p q => p.inj q
  keeps := fun p e d sb => p.keeps e d sb
  pyHash := fun hu p k => hash_nk (by omega) p k
  eqBool := fun hu p q k => eqBool_nk hu p q k
  quiet := fun p k => quiet_nk p k
end Pw
set_option Elab.async false
set_option maxRecDepth 100000
set_option maxHeartbeats 4000000
namespace Pw
open PySem PySem.Spec L2 PyProof.Rows
/-! dicts with such keys, tracked by what is true of their object -/
abbrev NRel : (NK × V) × Addr → NK × Addr × Value → Prop := fun p q => p.1.1 = q.1 ∧ p.2 = q.2.1 ∧ RelV p.1.2 q.2.2
def DNh (P : Program) (w : World) (d : Addr) (kvs : List (NK × V)) (as : List Addr) (h : Heap) : Prop := kvs.length ≤ sizeLine ∧ as.length = kvs.length ∧ (d == sysModules) = false ∧ ∃ xs : List (NK × Addr × Value), Paired NRel (kvs.zip as) xs ∧
  ∃ o es ep, h.get? d = some o ∧ o.ExactDict ∧ o.data = .dict es ep ∧ es.toList = xs.map (entryOfKey (nestKind P w)) ∧ (xs.map (·.1)).Nodup
def DN (P : Program) (w : World) (d : Addr) (kvs : List (NK × V)) (as : List Addr) : HO := .ext (DNh P w d kvs as)
/-- a key stands in the heap -/
def KItem (H : Hp) : (Int ⊕ List Int) → V → Prop
  | .inl i, v => v = .int i
  | .inr l, v => ∃ b, v = .ref b ∧ H b = some (.tup (l.map V.int))
def KeyN (H : Hp) (a : Addr) (k : NK) : Prop := ∃ vs, H a = some (.tup vs) ∧ Paired (KItem H) k vs
def DctN (P : Program) (w : World) (H : Hp) (d : Addr) (kvs : List (NK × V)) : Prop := ∃ as, H d = some (DN P w d kvs as) ∧ Paired (fun (kv : NK × V) a => KeyN H a kv.1) kvs as
theorem KItem.same {H H' : Hp} {x : Int ⊕ List Int} {v : V} (s : Same H H') (h : KItem H x v) : KItem H' x v := by
  cases x with
  | inl i => exact h
  | inr l =>
    obtain ⟨b, e, hb⟩ := h
    exact ⟨b, e, s _ _ hb⟩
theorem KeyN.same {H H' : Hp} {a : Addr} {k : NK} (s : Same H H') (h : KeyN H a k) : KeyN H' a k := by
  obtain ⟨vs, h1, h2⟩ := h
  exact ⟨vs, s _ _ h1, Paired.mapP h2 fun _ _ q => q.same s⟩
theorem DctN.same {P : Program} {w : World} {H H' : Hp} {d : Addr} {kvs : List (NK × V)} (s : Same H H') (h : DctN P w H d kvs) : DctN P w H' d kvs := by
  obtain ⟨as, h1, h2⟩ := h
  exact ⟨as, s _ _ h1, Paired.mapP h2 fun _ _ q => q.same s⟩
theorem items_int {P : Program} {w : World} : ∀ {l : List Int} {us : List Value}, Vals (l.map V.int) us → ItemsAre (PySem.intKind P w) l us
  | [], _, r => by
    cases r
    exact .nil
  | i :: l, _, r => by
    cases r with
    | cons h t =>
      obtain ⟨t', rfl⟩ := h
      exact .cons (by simp [PySem.intKind, Value.isInt]) (items_int t)
theorem keyN_is {P : Program} {w : World} {H : Hp} {h : Heap} {a : Addr} {k : NK} (ok : HOk P w H h) (q : KeyN H a k) : IsNK P w h k a := by
  obtain ⟨vs, ha, r⟩ := q
  obtain ⟨z0, its, rv, ob, e, c, n, d⟩ := (show ObjOk P w H h a (.tup vs) from ok a _ ha)
  refine ⟨ob, its.toArray, n, e, c, d, ?_⟩
  rw [List.toList_toArray]
  clear e c d ha z0
  induction r generalizing its with
  | nil =>
    cases rv
    exact .nil
  | @cons x v xs vs hx _ ih =>
    cases rv with
    | cons hu tu =>
      refine .cons ?_ (ih _ tu)
      cases x with
      | inl i =>
        subst hx
        obtain ⟨t, rfl⟩ := hu
        exact .int i t
      | inr l =>
        obtain ⟨b, rfl, hb⟩ := hx
        cases hu
        obtain ⟨_, its2, rv2, ob2, e2, c2, n2, d2⟩ := (show ObjOk P w H h b (.tup (l.map V.int)) from ok b _ hb)
        exact .tup ⟨ob2, its2.toArray, n2, e2, c2, d2, by rw [List.toList_toArray]; exact items_int rv2⟩
theorem dn_ext {P : Program} {w : World} {d : Addr} {kvs : List (NK × V)} {as : List Addr} {h1 h2 : Heap} (q : DNh P w d kvs as h1) (k : ∀ o, h1.get? d = some o → h2.get? d = some o) : DNh P w d kvs as h2 := by
  obtain ⟨z1, z2, z3, xs, r, o, es, ep, e, c⟩ := q
  exact ⟨z1, z2, z3, xs, r, o, es, ep, k _ e, c⟩
theorem zip_rel {kvs : List (NK × V)} {as : List Addr} {xs : List (NK × Addr × Value)} (r : Paired NRel (kvs.zip as) xs) {Z : NK → Addr → Prop} (k : Paired (fun (kv : NK × V) a => Z kv.1 a) kvs as) : ∀ x ∈ xs, Z x.1 x.2.1 := by
  induction k generalizing xs with
  | nil =>
    cases r
    intro x hx
    cases hx
  | @cons kv a kvs as h _ ih =>
    rw [List.zip_cons_cons] at r
    cases r with
    | @cons _ q _ qs hq t =>
      intro x hx
      rcases List.mem_cons.mp hx with rfl | hx
      · obtain ⟨e1, e2, _⟩ := hq
        rw [← e1, ← e2]
        exact h
      · exact ih t x hx
/-- what stands in the heap -/
theorem dctN_at {P : Program} {w : World} {H : Hp} {h : Heap} {d : Addr} {kvs : List (NK × V)} {as : List Addr} (ok : HOk P w H h) (hd : H d = some (DN P w d kvs as)) (hk : Paired (fun (kv : NK × V) a => KeyN H a kv.1) kvs as) :
    kvs.length ≤ sizeLine ∧ as.length = kvs.length ∧ (d == sysModules) = false ∧ ∃ xs, Paired NRel (kvs.zip as) xs ∧ h.DictOfH (nestKind P w) d xs := by
  obtain ⟨⟨z1, z2, z3, xs, r, o, es, ep, e, c1, c2, c3, c4⟩, _⟩ := (show ObjOk P w H h d (DN P w d kvs as) from ok d _ hd)
  exact ⟨z1, z2, z3, xs, r, o, es, ep, e, c1, c2, c3, zip_rel r (Paired.mapP hk fun kv a q => keyN_is ok q), c4⟩
theorem at_rel : ∀ {kvs : List (NK × V)} {as : List Addr} {xs : List (NK × Addr × Value)}, as.length = kvs.length → Paired NRel (kvs.zip as) xs → ∀ k, RelO (valV kvs k) ((atKey xs k).map (·.2))
  | [], [], _, _, r, k => by
    cases r
    exact True.intro
  | _ :: _, [], _, hl, _, _ => by simp at hl
  | [], _ :: _, _, hl, _, _ => by simp at hl
  | kv :: kvs, a :: as, xs, hl, r, k => by
    rw [List.zip_cons_cons] at r
    cases r with
    | @cons _ q _ qs hq t =>
      obtain ⟨e1, e2, e3⟩ := hq
      have ih := at_rel (by simpa using hl) t k
      by_cases c : kv.1 = k
      · rw [valV_pos c]
        have : atKey (q :: qs) k = some q.2 := by simp [atKey, show q.1 = k from e1.symm.trans c]
        rw [this]
        exact e3
      · rw [valV_neg c]
        have : atKey (q :: qs) k = atKey qs k := by simp [atKey, show ¬ q.1 = k from fun z => c (e1.trans z)]
        rw [this]
        exact ih
section
variable {X : Cx} {pins : List (Addr × Obj)} {σ : L2.St} {H : Hp} {s : Shared} {d b : Addr} {kvs : List (NK × V)} {k : NK} {v : V} {A : Around} {E : Value → Shared → Prop}
theorem dn_room {A : Around} (hu : A.units + 3 < cLine) : (nestKind X.prog X.w).room A.in1 := by
  show A.in1.units + 2 < cLine
  have : A.in1.units = A.units + 1 := rfl
  omega
theorem dn_getItem {Q : Value → Shared → Prop} (hu : A.units + 3 < cLine) (I : Inv X pins σ H s) (D : DctN X.prog X.w H d kvs) (hb : KeyN H b k) (hv : valV kvs k = some v) (q : ∀ w' s', Inv X pins σ H s' → RelV v w' → Q w' s') :
    wpAny (model X.prog X.w) A (getItem (.ref d) (.ref b)) Q E s := by
  obtain ⟨as, D1, D2⟩ := D
  obtain ⟨z1, z2, z3, xs, r, dd⟩ := dctN_at I.hok D1 D2
  obtain ⟨w', hw, rw'⟩ := RelO.some_of (v := v) (o := (atKey xs k).map (·.2)) (by rw [← hv]; exact at_rel z2 r k)
  obtain ⟨p, hp, hp2⟩ := Option.map_eq_some_iff.mp hw
  refine wpAny_getItem_heap (dn_room hu) (keyN_is I.hok hb) dd hp ?_
  rw [hp2]
  exact q w' _ (I.tok _) rw'
theorem dn_notIn {Q : Value → Shared → Prop} (hu : A.units + 3 < cLine) (I : Inv X pins σ H s) (D : DctN X.prog X.w H d kvs) (hb : KeyN H b k) (q : ∀ s', Inv X pins σ H s' → Q (.bool (!(valV kvs k).isSome)) s') :
    wpAny (model X.prog X.w) A (compareOp .NotIn (.ref b) (.ref d)) Q E s := by
  obtain ⟨as, D1, D2⟩ := D
  obtain ⟨z1, z2, z3, xs, r, dd⟩ := dctN_at I.hok D1 D2
  refine wpAny_notIn_heap (dn_room hu) (keyN_is I.hok hb) z3 dd ?_
  have e := (at_rel z2 r k).isSome_eq
  rw [Option.isSome_map] at e
  rw [← e]
  exact q _ (I.tok _)
theorem put_rel : ∀ {kvs : List (NK × V)} {as : List Addr} {xs : List (NK × Addr × Value)} {k : NK} {y : V} {u : Value}, as.length = kvs.length → Paired NRel (kvs.zip as) xs → RelV y u →
    Paired NRel ((kvs.map fun kv => if kv.1 = k then (kv.1, y) else kv).zip as) (xs.map (putAt k u))
  | [], [], _, _, _, _, _, r, _ => by
    cases r
    exact .nil
  | _ :: _, [], _, _, _, _, hl, _, _ => by simp at hl
  | [], _ :: _, _, _, _, _, hl, _, _ => by simp at hl
  | kv :: kvs, a :: as, xs, k, y, u, hl, r, ry => by
    rw [List.zip_cons_cons] at r
    cases r with
    | @cons _ q _ qs hq t =>
      rw [List.map_cons, List.zip_cons_cons, List.map_cons]
      refine .cons ?_ (put_rel (by simpa using hl) t ry)
      obtain ⟨e1, e2, e3⟩ := hq
      have e1 : kv.1 = q.1 := e1
      unfold putAt
      by_cases c : kv.1 = k
      · rw [if_pos c, if_pos (e1.symm.trans c)]
        exact ⟨e1, e2, ry⟩
      · rw [if_neg c, if_neg (fun z => c (e1.trans z))]
        exact ⟨e1, e2, e3⟩
theorem keys_put {Z : NK → Addr → Prop} {k : NK} {y : V} : ∀ {kvs : List (NK × V)} {as : List Addr}, Paired (fun (kv : NK × V) a => Z kv.1 a) kvs as → Paired (fun (kv : NK × V) a => Z kv.1 a) (kvs.map fun kv => if kv.1 = k then (kv.1, y) else kv) as
  | _, _, .nil => .nil
  | _, _, .cons (a := kv) h t => by
    rw [List.map_cons]
    refine .cons ?_ (keys_put t)
    split
    · exact h
    · exact h
theorem dn_setItem {u : Value} {Q : Unit → Shared → Prop} (hu : A.units + 3 < cLine) (I : Inv X pins σ H s) (D : DctN X.prog X.w H d kvs) (hb : KeyN H b k) (hl : kvs.length < sizeLine) (rv : RelV v u)
    (q : ∀ s' H', Inv X pins σ H' s' → DctN X.prog X.w H' d (putK kvs k v) → (∀ c o, H c = some o → c ≠ d → H' c = some o) → (∀ c, H' c = none → H c = none) → Q () s') : wpAny (model X.prog X.w) A (setItem (.ref d) (.ref b) u) Q E s := by
  obtain ⟨as, D1, D2⟩ := D
  obtain ⟨z1, z2, z3, xs, r, dd⟩ := dctN_at I.hok D1 D2
  have lx : xs.length = kvs.length := by
    have := Paired.length r
    rw [List.length_zip] at this
    omega
  refine wpAny_setItem_heap (hsz := by omega) (dn_room hu) (keyN_is I.hok hb) dd fun h' dd' sb => ?_
  obtain ⟨o, es, ep, e, c1, c2, c3, _, c5⟩ := dd'
  have hs : (kvs.any fun kv => decide (kv.1 = k)) = (atKey xs k).isSome := by
    rw [valV_any, (at_rel z2 r k).isSome_eq, Option.isSome_map]
  have nd : ∀ c vs, H c = some (.tup vs) → c ≠ d := fun c vs ec => ne_of ec D1 (fun z => nomatch z)
  have kn : ∀ (o' : HO) (c : Addr) (k' : NK), KeyN H c k' → KeyN (upd H d o') c k' := fun o' c k' ⟨vs, h1, h2⟩ => by
    refine ⟨vs, (upd_ne (nd _ _ h1)).trans h1, Paired.mapP h2 fun x v' h3 => ?_⟩
    cases x with
    | inl i => exact h3
    | inr l =>
      obtain ⟨b', e1, e2⟩ := h3
      exact ⟨b', e1, (upd_ne (nd _ _ e2)).trans e2⟩
  have mu : Mut (H d) := by
    rw [D1]
    exact True.intro
  have lp := length_putK kvs k v
  have fin : ∀ as' : List Addr, as'.length = (putK kvs k v).length → Paired NRel ((putK kvs k v).zip as') (storedH xs k b u) → Paired (fun (kv : NK × V) a => KeyN H a kv.1) (putK kvs k v) as' → Q () { s with heap := h', toks := s.toks + (nestKind X.prog X.w).draws k } := by
    intro as' l' r' k'
    have ob : ObjOk X.prog X.w (upd H d (DN X.prog X.w d (putK kvs k v) as')) h' d (DN X.prog X.w d (putK kvs k v) as') := ⟨⟨by omega, l', z3, _, r', o, es, ep, e, c1, c2, c3, c5⟩, ⟨o, e⟩, fun h1 h2 p1 p2 => dn_ext p1 p2⟩
    refine q _ (upd H d (DN X.prog X.w d (putK kvs k v) as')) (d_write I mu sb ⟨o, e⟩ ob) ⟨as', upd_same, Paired.mapP k' fun kv a z => kn _ _ _ z⟩ (fun c o' ec n => (upd_ne n).trans ec) fun c ec => ?_
    by_cases z : c = d
    · rw [z, upd_same] at ec
      cases ec
    · rw [upd_ne z] at ec
      exact ec
  unfold putK storedH at fin
  rw [hs] at fin
  by_cases c : (atKey xs k).isSome = true
  · rw [if_pos c, if_pos c] at fin
    exact fin as (by rw [List.length_map]; exact z2) (put_rel z2 r rv) (keys_put (Z := fun k' a => KeyN H a k') D2)
  · rw [if_neg c, if_neg c] at fin
    refine fin (as ++ [b]) (by rw [List.length_append, List.length_append, z2]; rfl) ?_ (Paired.snoc D2 hb)
    rw [List.zip_append z2.symm]
    exact Paired.snoc r ⟨rfl, rfl, rv⟩
end
def tDNewN (P : Program) (w : World) : TE := fun _ H Q => ∀ p, H p = none → ∀ H', Same H H' → DctN P w H' p [] → Q (.ref p) H'
def tDNotInN (P : Program) (w : World) (ty td : TE) : TE := fun σ H Q => ty σ H fun y H1 => td σ H1 fun x H2 => ∃ d b kvs k, x = .ref d ∧ y = .ref b ∧ DctN P w H2 d kvs ∧ KeyN H2 b k ∧ Q (.bl (!(valV kvs k).isSome)) H2
def tDGetN (P : Program) (w : World) (td ty : TE) : TE := fun σ H Q => td σ H fun x H1 => ty σ H1 fun y H2 => ∃ d b kvs k v, x = .ref d ∧ y = .ref b ∧ DctN P w H2 d kvs ∧ KeyN H2 b k ∧ valV kvs k = some v ∧ Q v H2
def sDPutN (P : Program) (w : World) (td ty tv : TE) : TS := fun D σ H => tv σ H fun v H1 => td σ H1 fun x H2 => ty σ H2 fun y H3 => ∃ d b kvs k, x = .ref d ∧ y = .ref b ∧ DctN P w H3 d kvs ∧ KeyN H3 b k ∧ kvs.length < sizeLine ∧
  ∀ H4, DctN P w H4 d (putK kvs k v) → (∀ c o, H3 c = some o → c ≠ d → H4 c = some o) → (∀ c, H4 c = none → H3 c = none) → D.nx σ H4
def tListValsN (P : Program) (w : World) (td : TE) : TE := fun σ H Q => td σ H fun x H1 => ∃ (d : Addr) (kvs : List (NK × V)), x = V.ref d ∧ DctN P w H1 d kvs ∧ ∀ q, H1 q = none → Q (.ref q) (upd H1 q (.lst (kvs.map (·.2))))
section
variable {X : Cx} {o i value : Expr} {p pos pos' apos mpos : Pos} {td ty tv : TE}
theorem pe_dnewN : PE X (.Dict [] [] pos) (tDNewN X.prog X.w) := by
  refine ⟨fun pins s σ H Q I h => ?_⟩
  have hn := I.hok.fresh (Nat.le_refl s.heap.objs.size)
  have ob : DNh X.prog X.w s.heap.objs.size [] [] (s.heap.push { cls := .type "dict", data := .dict #[] }) := ⟨Nat.zero_le _, rfl, beq_eq_false_iff_ne.mpr (Ne.symm (Nat.ne_of_lt I.big)), [], .nil, _, #[], 0, Heap.get?_push_size _ rfl, ⟨rfl, rfl, rfl⟩, rfl, rfl, List.nodup_nil⟩
  refine wpAny_Dict_empty ⟨.ref s.heap.objs.size, upd H s.heap.objs.size (DN X.prog X.w s.heap.objs.size [] []), I.laid (t' := s.toks) (fun _ _ q => Heap.get?_push_of_some _ q) (Nat.le_refl _) ⟨ob, ⟨_, Heap.get?_push_size _ rfl⟩, fun h1 h2 p1 p2 => dn_ext p1 p2⟩, rfl, h _ hn _ (fun b q e => ?_) ⟨[], upd_same, .nil⟩⟩
  rw [upd_ne (ne_of_none e hn)]
  exact e
theorem pc_dnotinN (hu : X.A.units + 3 < cLine) (hi : PE X i ty) (ho : PE X o td) : PC X .NotIn i o (tDNotInN X.prog X.w ty td) := by
  refine ⟨fun pins s σ H Q I h => ?_⟩
  refine thn (hi.run pins s σ H _ I h) fun iv s1 ⟨y, H1, I1, ry, q1⟩ => thn (ho.run pins s1 σ H1 _ I1 q1) fun u s2 ⟨x, H2, I2, rx, d, b, kvs, k, ex, ey, D, hb, q2⟩ => ?_
  subst ex
  subst ey
  cases rx
  cases ry
  exact dn_notIn hu I2 D hb fun s3 I3 => ⟨.bl _, H2, I3, rfl, q2⟩
theorem pe_dgetN (hu : X.A.units + 3 < cLine) (ho : PE X o td) (hi : PE X i ty) (hs : NoSl i) : PE X (.Subscript o i pos) (tDGetN X.prog X.w td ty) := by
  refine ⟨fun pins s σ H Q I h => ?_⟩
  refine subD_of PySem.F.slot_dict_getitem.lookup hs (thn (ho.run pins s σ H _ I h) fun u s1 ⟨x, H1, I1, rx, q1⟩ => thn (hi.run pins s1 σ H1 _ I1 q1) fun iv s2 ⟨y, H2, I2, ry, d, b, kvs, k, v, ex, ey, D, hb, hv, q2⟩ => ?_)
  subst ex
  subst ey
  cases rx
  cases ry
  refine ⟨?_, dn_getItem hu I2 D hb hv fun w' s3 I3 rw' => ⟨v, H2, I3, rw', q2⟩⟩
  obtain ⟨as, D1, D2⟩ := D
  obtain ⟨_, _, _, xs, _, dd⟩ := dctN_at I2.hok D1 D2
  exact dd.typeIs
theorem ps_dputN (hu : X.A.units + 3 < cLine) (ho : PE X o td) (hi : PE X i ty) (hv : PE X value tv) (hs : swapsWith value (some (.Subscript o i pos')) pos.line X.env = pure false) :
    PS X (.Assign [.Subscript o i pos'] value pos) (sDPutN X.prog X.w td ty tv) := by
  refine ⟨fun pins s σ H D I h => ?_⟩
  refine wpAny_Assign_Subscript (thn (hv.run pins s σ H _ I h) fun r s1 ⟨v, H1, I1, rv, q1⟩ => thn (ho.run pins s1 σ H1 _ I1 q1) fun u s2 ⟨x, H2, I2, rx, q2⟩ => thn (hi.run pins s2 σ H2 _ I2 q2) fun iv s3 ⟨y, H3, I3, ry, d, b, kvs, k, ex, ey, Dd, hb, hl, q3⟩ => ?_) hs
  subst ex
  subst ey
  cases rx
  cases ry
  exact dn_setItem hu I3 Dd hb hl rv fun s4 H4 I4 D4 k4 f4 => ⟨σ, H4, I4, q3 H4 D4 k4 f4⟩
theorem NRel_vals : ∀ {kvs : List (NK × V)} {as : List Addr} {xs : List (NK × Addr × Value)}, as.length = kvs.length → Paired NRel (kvs.zip as) xs → Vals (kvs.map (·.2)) (xs.map fun x => x.2.2)
  | [], [], _, _, r => by
    cases r
    exact .nil
  | _ :: _, [], _, hl, _ => by simp at hl
  | [], _ :: _, _, hl, _ => by simp at hl
  | kv :: kvs, a :: as, xs, hl, r => by
    rw [List.zip_cons_cons] at r
    cases r with
    | cons hq t => exact .cons hq.2.2 (NRel_vals (by simpa using hl) t)
theorem pe_listValsN (hc : X.calm = true) (hg : Gl X "list") (hm : X.mg "list" = none) (hd : PE X o td) (hbase : attributeBase o "values" X.env (eval o X.env) = eval o X.env := by rfl) (hline : (apos.endLine == mpos.line) = true := by rfl)
    (na : starEach [Expr.Call (.Attribute o "values" apos) [] [] mpos] X.env = (false, eval (Expr.Call (.Attribute o "values" apos) [] [] mpos) X.env) :: starEach [] X.env := by rfl) :
    PE X (.Call (.Name "list" p) [.Call (.Attribute o "values" apos) [] [] mpos] [] pos) (tListValsN X.prog X.w td) := by
  refine ⟨fun pins s σ H Q I h => ?_⟩
  refine Call_ (ld_blt I hg hm boot_list (PyProof.Rows.callWith_type1 (args_cons (wpAny_Call_method0_late hbase hline (thn (hd.run pins s σ H _ I h) fun v s1 ⟨x, H1, I1, r1, d, kvs, ex, D, q⟩ => ?_)) na) na))
  subst ex
  obtain rfl : v = Value.ref d := r1
  obtain ⟨as, D1, D2⟩ := D
  obtain ⟨hz, la, hsys, xs, rel, dof⟩ := dctN_at I1.hok D1 D2
  have lx : xs.length = kvs.length := by
    have := Paired.length rel
    rw [List.length_zip] at this
    omega
  obtain ⟨es, ep, raw, hes, hat⟩ := dof.raw
  obtain ⟨ob, ho, hx, hdt⟩ := id raw
  refine ⟨"dict", "dict.values", F.plainAttrs_dict, F.slot_dict_values, F.type_dict_values, ⟨ob, ho, hx.1⟩, fun b e => ?_, Calls.callWith_builtin rfl (PySem.evalArgs_none ?_)⟩
  · cases e
    exact ⟨ob, ho, hx.2.1⟩
  refine call_meetsIn F.slot_dict_values ⟨ob, ho, hx.1⟩ F.entry_dict_values (F.args_dict_values_1 _) (meets_dict_values_raw d hsys) ⟨⟨es, ep, raw⟩, args_nil ?_⟩
  have kp1 : ∀ b u, s1.heap.get? b = some u → (s1.heap.push { cls := .type "dict_values", data := .fields #[.ref d] }).get? b = some u := fun b u e => Heap.get?_push_of_some _ e
  have I2 : Inv X pins σ H1 { s1 with heap := s1.heap.push { cls := .type "dict_values", data := .fields #[.ref d] } } := I1.kept (t' := s1.toks) kp1
  refine PySem.W.kdl_call (KdlSrc.rawValues (r := s1.heap.objs.size) (d := d) (es := es) (ep := ep)) (I.ok.hd hc) ⟨⟨_, Heap.get?_push_size _ rfl, rfl, rfl⟩, raw.at fun u e => kp1 d u e⟩ (by omega) fun h' tk acc' c' kp e it => ?_
  have hl : acc'.toList.length = xs.length := by rw [Array.length_toList, it.1]; exact hes
  have rv : Vals (kvs.map (·.2)) acc'.toList := by
    have ea : acc'.toList = xs.map fun x => x.2.2 := by
      apply List.ext_getElem?
      intro j
      rw [List.getElem?_map]
      cases hj : acc'.toList[j]? with
      | none =>
        have h1 := List.getElem?_eq_none_iff.mp hj
        rw [List.getElem?_eq_none (by omega)]
        rfl
      | some v =>
        obtain ⟨hi, hv⟩ := it.2 j v (by rw [← Array.getElem?_toList]; exact hj)
        obtain ⟨y, hy, _, hyv, _⟩ := hat j hi
        rw [hy, hv, hyv]
        rfl
    rw [ea]
    exact NRel_vals la rel
  refine ⟨.ref _, _, I2.laid (t' := tk) (o := .lst (kvs.map (·.2))) kp (Nat.le_refl _) ?_, rfl, q _ (I2.hok.fresh (Nat.le_refl _))⟩
  exact ⟨by rw [List.length_map]; exact hz, acc'.toList, c', rv, by rw [Array.toArray_toList]; exact e⟩
end
end Pw
set_option Elab.async false
set_option maxRecDepth 100000
set_option maxHeartbeats 4000000
namespace Pw
open PySem PySem.Spec L2 PyProof.Rows
/-! a def that is called for each item of a list, by a built-in -/
theorem run_at {X : Cx} {B : Around} {k : Nat} {f : Addr} {fd : FuncData} {ps : List Str} {sp : Sp} {E0 : XK} {pins : List (Addr × Obj)} {σ : L2.St} {H : Hp} {s : Shared} {Q : VK} {us : List Value} {vs : List V} {E : Value → Shared → Prop}
    (F : FnOk X.prog X.w X.K X.mg X.base CX0 k f fd ps sp) (hr : Room k B) (hf : B.frames = some X.stack) (hb : Binds X.K fd ps []) (I : Inv X pins σ H s) (r : Vals vs us) (h : sp vs H Q E0) :
    wpAny (model X.prog X.w) B (call (.ref f) us) (EP X pins σ Q) E s := by
  have hl : (us ++ []).length = ps.length := by
    rw [List.append_nil, ← r.length]
    exact F.len _ _ _ _ h
  have b0 := hb s us I.kIn hl
  rw [List.append_nil] at b0
  have e := I.env0
  refine wpAny_call (codeAny_mono (F.run B X.stack s H ⟨us, []⟩ us vs Q E0 hr ⟨hf, e.mod, e.bs, e.bsz, e.funs, e.frf, e.hok, e.bare⟩ b0 r h) fun r s' hq => ?_)
  cases r with
  | error e => exact False.elim hq
  | ok fl =>
    cases fl with
    | ret u => exact I.after hq
    | next => exact False.elim hq
    | brk => exact False.elim hq
    | cont => exact False.elim hq
structure KeyF (X : Cx) (B : Around) (σ : L2.St) (H : Hp) (f : Addr) (bs : List Addr) (Rk : Nat → V → Hp → Prop) : Prop where
  run : ∀ (pins : List (Addr × Obj)) (i : Nat) (b : Addr) (H1 : Hp) (s1 : Shared) (Q : Value → Shared → Prop) (E : Value → Shared → Prop), bs[i]? = some b → Inv X pins σ H1 s1 → Same H H1 →
    (∀ v u H2 s2, Inv X pins σ H2 s2 → Same H1 H2 → RelV v u → Rk i v H2 → Q u s2) → wpAny (model X.prog X.w) B (call (.ref f) [.ref b]) Q E s1
  stay : ∀ i v H1 H2, Same H1 H2 → Rk i v H1 → Rk i v H2
theorem keyF_of {X : Cx} {B : Around} {σ : L2.St} {H : Hp} {k : Nat} {f : Addr} {fd : FuncData} {ps : List Str} {sp : Sp} {bs : List Addr} {Rk : Nat → V → Hp → Prop}
    (F : FnOk X.prog X.w X.K X.mg X.base CX0 k f fd ps sp) (hr : Room k B) (hf : B.frames = some X.stack) (hb : Binds X.K fd ps [])
    (h : ∀ i b H1 (Q : VK), bs[i]? = some b → Same H H1 → (∀ v H2, Same H1 H2 → Rk i v H2 → Q v H2) → sp [.ref b] H1 Q (fun _ _ _ => False)) (st : ∀ i v H1 H2, Same H1 H2 → Rk i v H1 → Rk i v H2) : KeyF X B σ H f bs Rk where
  run := fun pins i b H1 s1 Q E hb' I sm q => by
    refine thn (run_at (Q := fun v H2 => Same H1 H2 ∧ Rk i v H2) F hr hf hb I (.cons (show RelV (.ref b) (.ref b) from rfl) .nil) (h i b H1 _ hb' sm fun v H2 a c => ⟨a, c⟩)) fun u s2 ⟨v, H2, I2, r, a, c⟩ => ?_
    exact q v u H2 s2 I2 a r c
  stay := st
section
variable {X : Cx} {pins : List (Addr × Obj)} {σ : L2.St} {H H1 : Hp} {s : Shared} {B : Around} {f : Addr} {bs : List Addr} {Rk : Nat → V → Hp → Prop}
def HeldO (X : Cx) (pins : List (Addr × Obj)) (H : Hp) (h : Heap) (p : Addr × Obj) : Prop := FpOk X pins H p.1 ∧ h.get? p.1 = some p.2 ∧ ∀ v, p.2.data ≠ .cell v
theorem held_call {i : Nat} {b : Addr} {Q : Value → Shared → Prop} {E : Value → Shared → Prop} (KF : KeyF X B σ H f bs Rk) (zs : List (Addr × Obj)) (I : Inv X pins σ H1 s) (hz : ∀ p ∈ zs, HeldO X pins H1 s.heap p) (hb : bs[i]? = some b) (sm : Same H H1)
    (q : ∀ v u H2 s2, Inv X pins σ H2 s2 → Same H1 H2 → RelV v u → Rk i v H2 → (∀ p ∈ zs, HeldO X pins H2 s2.heap p) → Q u s2) : wpAny (model X.prog X.w) B (call (.ref f) [.ref b]) Q E s := by
  have I' : Inv X (zs ++ pins) σ H1 s := I.pins_of fun p hp => by
    rcases List.mem_append.mp hp with hp | hp
    · obtain ⟨a1, a2, a3⟩ := hz p hp
      exact ⟨a2, a1.1, a1.2.1, a1.2.2.1, a3⟩
    · exact I.pin p (List.mem_append_right _ hp)
  refine KF.run _ i b H1 s Q E hb I' sm fun v u H2 s2 I2 s12 r rk => ?_
  refine q v u H2 s2 (I2.pins_of fun p hp => I2.pin p (List.mem_append_right _ (List.mem_append_right _ hp))) s12 r rk fun p hp => ?_
  obtain ⟨c1, c2, _⟩ := I2.pin p (List.mem_append_right _ (List.mem_append_left _ hp))
  obtain ⟨a1, _, a3⟩ := hz p hp
  exact ⟨⟨c2, a1.2⟩, c1, a3⟩
/-- one of ours has turned -/
theorem held_turn {z : Addr} {h' : Heap} {t' : Nat} (I : Inv X pins σ H1 s) (hz : FpOk X pins H1 z) (k : ∀ b o, b ≠ z → s.heap.get? b = some o → h'.get? b = some o) : Inv X pins σ H1 { s with heap := h', toks := t' } :=
  I.turned k hz.1 hz.2.1 hz.2.2.2.1 hz.2.2.2.2.1 hz.2.2.2.2.2
theorem vals_refs : ∀ {bs : List Addr} {us : List Value}, Vals (bs.map V.ref) us → us = bs.map Value.ref
  | [], _, r => by
    cases r
    rfl
  | b :: bs, _, r => by
    cases r with
    | cons h t =>
      cases h
      rw [vals_refs t]
      rfl
theorem list_refs {a : Addr} (I : Inv X pins σ H1 s) (hs : SqL X.K H1 a (bs.map V.ref)) : s.heap.IsList a (bs.map Value.ref).toArray ∧ bs.length ≤ sizeLine := by
  obtain ⟨its, r, p, z⟩ := I.list hs
  rw [← vals_refs r]
  exact ⟨p.isList, by simpa using z⟩
/-- the best so far -/
def bestO (vb kb : Value) (c : Nat) : Obj := { cls := .type "list", dict := none, data := .seq #[vb, kb] c, slots := #[] }
structure MinCmp (X : Cx) (σ : L2.St) (Rk : Nat → V → Hp → Prop) (bt : Nat → Nat → Bool) : Prop where
  lt : ∀ (pins : List (Addr × Obj)) (i j : Nat) (vi vj : V) (ui uj : Value) (H1 : Hp) (s1 : Shared) (Q : Value → Shared → Prop) (E : Value → Shared → Prop), Inv X pins σ H1 s1 → Rk i vi H1 → Rk j vj H1 → RelV vi ui → RelV vj uj → Q (.bool (bt i j)) s1 →
    wpAny (model X.prog X.w) X.A.in1 (richCompare .Lt ui uj) Q E s1
variable {bt : Nat → Nat → Bool} {a S It : Addr} {R : Result → Shared → Prop} {kw : List (Str × Value)}
theorem loop_name : (toString "min" ++ toString ".loop" : String) = "min.loop" := by decide
theorem min_loop (hh : X.A.handled = none) (KF : KeyF X X.A.in1 σ H f bs Rk) (hs : SqL X.K H a (bs.map V.ref)) (C : MinCmp X σ Rk bt) (hSI : S ≠ It) (haI : a ≠ It)
    (fin : ∀ H1 s1 b, Inv X pins σ H1 s1 → Same H H1 → bs[argBest bt (bs.length - 1)]? = some b → R (.ok (.ret (.ref b))) s1) :
    ∀ (n j : Nat) (s : Shared) (H1 : Hp) (b : Addr) (kv : V) (kb : Value) (c : Nat) (oI : Obj), bs.length - (j + 1) = n → j + 1 ≤ bs.length → Inv X pins σ H1 s → Same H H1 → HeldO X pins H1 s.heap (S, bestO (.ref b) kb c) → HeldO X pins H1 s.heap (It, oI) →
    s.heap.IsListIter It a (j + 1) → bs[argBest bt j]? = some b → RelV kv kb → Rk (argBest bt j) kv H1 → codeAny (model X.prog X.w) X.A (.builtin "min.loop" ⟨[.ref It, .ref f, .ref S], kw⟩) R s := by
  intro n
  induction n with
  | zero =>
    intro j s H1 b kv kb c oI hn hj I sm hS hI hit hb rk rkk
    have ej : bs.length - 1 = j := by omega
    obtain ⟨hl, _⟩ := list_refs I (sm.seq hs)
    have W := Walks.list (prog := X.prog) (w := X.w) (A := X.A.in1) hh It a haI (bs.map Value.ref).toArray
    have sz : (bs.map Value.ref).toArray.size = bs.length := by simp
    apply codeAny_builtin F.entry_min_loop
    rw [Around.under_plainId F.plain_min_loop]
    change wpAny (model X.prog X.w) X.A.in1 (seqItems? (.ref S) >>= _) _ _ s
    refine wpAny_bind (wpAny_seqItems hS.2.1 rfl ?_)
    change wpAny (model X.prog X.w) X.A.in1 (tryCatch (pyNext (.ref It)) _ >>= _) _ _ s
    refine wpAny_bind (wpAny_tryCatch (W.done s _ _ ⟨by rw [sz, show bs.length = j + 1 by omega]; exact hit, hl⟩ fun h' tk kp => ?_))
    have nI : ∀ b o, b ≠ It → s.heap.get? b = some o → h'.get? b = some o := fun b o hb e => kp b o (by simpa using hb) e
    have I1 : Inv X pins σ H1 { s with heap := h', toks := tk } := held_turn I hI.1 nI
    have g1 := nI S _ hSI hS.2.1
    change wpAny (model X.prog X.w) X.A.in1 (updateSeq S (fun _ => #[]) >>= _) _ _ _
    refine wpAny_bind (wpAny_updateSeq g1 rfl (wpAny_bind (wpAny_letGo (wpAny_pure ?_))))
    exact fin H1 _ b (held_turn (t' := tk) I1 hS.1 fun b o hb e => (Heap.get?_update_other _ _ (Ne.symm hb)).trans e) sm (by rw [ej]; exact hb)
  | succ n ih =>
    intro j s H1 b kv kb c oI hn hj I sm hS hI hit hb rk rkk
    have hlt : j + 1 < bs.length := by omega
    obtain ⟨hl, _⟩ := list_refs I (sm.seq hs)
    have W := Walks.list (prog := X.prog) (w := X.w) (A := X.A.in1) hh It a haI (bs.map Value.ref).toArray
    have sz : (bs.map Value.ref).toArray.size = bs.length := by simp
    apply codeAny_builtin F.entry_min_loop
    rw [Around.under_plainId F.plain_min_loop]
    change wpAny (model X.prog X.w) X.A.in1 (seqItems? (.ref S) >>= _) _ _ s
    refine wpAny_bind (wpAny_seqItems hS.2.1 rfl ?_)
    change wpAny (model X.prog X.w) X.A.in1 (tryCatch (pyNext (.ref It)) _ >>= _) _ _ s
    refine wpAny_bind (wpAny_tryCatch (W.item (j + 1) s _ _ (by rw [sz]; exact hlt) ⟨hit, hl⟩ fun v h' tk hv st kp => ?_))
    have nI : ∀ b o, b ≠ It → s.heap.get? b = some o → h'.get? b = some o := fun b o hb e => kp b o (by simpa using hb) e
    have I1 : Inv X pins σ H1 { s with heap := h', toks := tk } := held_turn I hI.1 nI
    obtain ⟨b', hb', rfl⟩ : ∃ b', bs[j + 1]? = some b' ∧ v = Value.ref b' := by
      have hv' : (bs.map Value.ref)[j + 1]? = some v := by simpa using hv
      rw [List.getElem?_map, Option.map_eq_some_iff] at hv'
      obtain ⟨b', e1, e2⟩ := hv'
      exact ⟨b', e1, e2.symm⟩
    obtain ⟨⟨oJ, hJ, hJc, hJd⟩, _⟩ := st
    have hS1 : HeldO X pins H1 h' (S, bestO (.ref b) kb c) := ⟨hS.1, nI S _ hSI hS.2.1, hS.2.2⟩
    have hI1 : HeldO X pins H1 h' (It, oJ) := ⟨hI.1, hJ, fun v => by rw [hJd]; intro q; cases q⟩
    change wpAny (model X.prog X.w) X.A.in1 (tryCatch (holding [.ref b'] (call (.ref f) [.ref b'])) _ >>= _) _ _ _
    refine wpAny_bind (wpAny_tryCatch (wpAny_holding (held_call KF [(S, bestO (.ref b) kb c), (It, oJ)] I1 (fun p hp => ?_) hb' sm fun kv' u H2 s2 I2 s12 r2 rk2 held => ?_)))
    · rcases List.mem_cons.mp hp with rfl | hp
      · exact hS1
      · rw [List.mem_singleton.mp hp]
        exact hI1
    have hS2 := held (S, bestO (.ref b) kb c) (by simp)
    have hI2 := held (It, oJ) (by simp)
    have rb2 := KF.stay _ _ _ _ s12 rkk
    change wpAny (model X.prog X.w) X.A.in1 (tryCatch (holding [.ref b', u] (richCompare .Lt u kb >>= _)) _ >>= _) _ _ _
    refine wpAny_bind (wpAny_tryCatch (wpAny_holding (wpAny_bind (C.lt pins (j + 1) (argBest bt j) kv' kv u kb H2 s2 _ _ I2 rk2 rb2 r2 rk ?_))))
    refine wpAny_bind (wpAny_holding (wpAny_truthy_bool (wpAny_bind (wpAny_letGo (wpAny_pure ?_)))))
    have hit2 : s2.heap.IsListIter It a (j + 1 + 1) := ⟨oJ, hI2.2.1, hJc, hJd⟩
    cases hbt : bt (j + 1) (argBest bt j) with
    | true =>
      have ab : argBest bt (j + 1) = j + 1 := by simp only [argBest, hbt, if_true]
      simp only [if_true]
      refine wpAny_bind (wpAny_updateSeq hS2.2.1 rfl (wpAny_bind (wpAny_letGo ?_)))
      have nS : ∀ b o, b ≠ S → s2.heap.get? b = some o → (s2.heap.update S (Obj.mapSeq fun _ => #[.ref b', u])).get? b = some o := fun b o hb e => (Heap.get?_update_other _ _ (Ne.symm hb)).trans e
      rw [loop_name]
      exact wpAny_pure ⟨plainId_quiet F.plain_min_loop _, ih (j + 1) _ H2 b' kv' u _ oJ (by omega) hlt (held_turn (t' := s2.toks) I2 hS2.1 nS) (sm.trans s12) ⟨hS2.1, Heap.get?_update_self _ hS2.2.1 rfl, fun v q => by cases q⟩
        ⟨hI2.1, nS It _ hSI.symm hI2.2.1, hI2.2.2⟩ ⟨oJ, nS It _ hSI.symm hI2.2.1, hJc, hJd⟩ (by rw [ab]; exact hb') r2 (by rw [ab]; exact rk2)⟩
    | false =>
      have ab : argBest bt (j + 1) = argBest bt j := by simp only [argBest, hbt, Bool.false_eq_true, if_false]
      simp only [Bool.false_eq_true, if_false]
      refine wpAny_bind (wpAny_letGo ?_)
      rw [loop_name]
      exact wpAny_pure ⟨plainId_quiet F.plain_min_loop _, ih (j + 1) _ H2 b kv kb c oJ (by omega) hlt I2 (sm.trans s12) hS2 hI2 hit2 (by rw [ab]; exact hb) rk (by rw [ab]; exact rb2)⟩
theorem min_first (hh : X.A.handled = none) (KF : KeyF X X.A.in1 σ H f bs Rk) (hs : SqL X.K H a (bs.map V.ref)) (C : MinCmp X σ Rk bt) (hSI : S ≠ It) (haI : a ≠ It) (hne : 0 < bs.length)
    (fin : ∀ H1 s1 b, Inv X pins σ H1 s1 → Same H H1 → bs[argBest bt (bs.length - 1)]? = some b → R (.ok (.ret (.ref b))) s1) {c : Nat} {oI : Obj} (I : Inv X pins σ H s) (hS : HeldO X pins H s.heap (S, { cls := .type "list", dict := none, data := .seq #[] c, slots := #[] })) (hI : HeldO X pins H s.heap (It, oI)) (hit : s.heap.IsListIter It a 0) :
    codeAny (model X.prog X.w) X.A (.builtin "min.loop" ⟨[.ref It, .ref f, .ref S], kw⟩) R s := by
  obtain ⟨hl, _⟩ := list_refs I hs
  have W := Walks.list (prog := X.prog) (w := X.w) (A := X.A.in1) hh It a haI (bs.map Value.ref).toArray
  have sz : (bs.map Value.ref).toArray.size = bs.length := by simp
  apply codeAny_builtin F.entry_min_loop
  rw [Around.under_plainId F.plain_min_loop]
  change wpAny (model X.prog X.w) X.A.in1 (seqItems? (.ref S) >>= _) _ _ s
  refine wpAny_bind (wpAny_seqItems hS.2.1 rfl ?_)
  change wpAny (model X.prog X.w) X.A.in1 (tryCatch (pyNext (.ref It)) _ >>= _) _ _ s
  refine wpAny_bind (wpAny_tryCatch (W.item 0 s _ _ (by rw [sz]; exact hne) ⟨hit, hl⟩ fun v h' tk hv st kp => ?_))
  have nI : ∀ b o, b ≠ It → s.heap.get? b = some o → h'.get? b = some o := fun b o hb e => kp b o (by simpa using hb) e
  have I1 : Inv X pins σ H { s with heap := h', toks := tk } := held_turn I hI.1 nI
  obtain ⟨b', hb', rfl⟩ : ∃ b', bs[0]? = some b' ∧ v = Value.ref b' := by
    have hv' : (bs.map Value.ref)[0]? = some v := by simpa using hv
    rw [List.getElem?_map, Option.map_eq_some_iff] at hv'
    obtain ⟨b', e1, e2⟩ := hv'
    exact ⟨b', e1, e2.symm⟩
  obtain ⟨⟨oJ, hJ, hJc, hJd⟩, _⟩ := st
  have hS1 : HeldO X pins H h' (S, { cls := .type "list", dict := none, data := .seq #[] c, slots := #[] }) := ⟨hS.1, nI S _ hSI hS.2.1, hS.2.2⟩
  have hI1 : HeldO X pins H h' (It, oJ) := ⟨hI.1, hJ, fun v => by rw [hJd]; intro q; cases q⟩
  change wpAny (model X.prog X.w) X.A.in1 (tryCatch (holding [.ref b'] (call (.ref f) [.ref b'])) _ >>= _) _ _ _
  refine wpAny_bind (wpAny_tryCatch (wpAny_holding (held_call KF [(S, { cls := .type "list", dict := none, data := .seq #[] c, slots := #[] }), (It, oJ)] I1 (fun p hp => ?_) hb' (Same.refl H) fun kv' u H2 s2 I2 s12 r2 rk2 held => ?_)))
  · rcases List.mem_cons.mp hp with rfl | hp
    · exact hS1
    · rw [List.mem_singleton.mp hp]
      exact hI1
  have hS2 := held (S, { cls := .type "list", dict := none, data := .seq #[] c, slots := #[] }) (by simp)
  have hI2 := held (It, oJ) (by simp)
  change wpAny (model X.prog X.w) X.A.in1 (updateSeq S (fun _ => #[.ref b', u]) >>= _) _ _ _
  have nS : ∀ b o, b ≠ S → s2.heap.get? b = some o → (s2.heap.update S (Obj.mapSeq fun _ => #[.ref b', u])).get? b = some o := fun b o hb e => (Heap.get?_update_other _ _ (Ne.symm hb)).trans e
  refine wpAny_bind (wpAny_updateSeq hS2.2.1 rfl ?_)
  rw [loop_name]
  exact wpAny_pure ⟨plainId_quiet F.plain_min_loop _, min_loop hh KF hs C hSI haI fin _ 0 _ H2 b' kv' u _ oJ rfl hne (held_turn (t' := s2.toks) I2 hS2.1 nS) s12 ⟨hS2.1, Heap.get?_update_self _ hS2.2.1 rfl, fun v q => by cases q⟩
    ⟨hI2.1, nS It _ hSI.symm hI2.2.1, hI2.2.2⟩ ⟨oJ, nS It _ hSI.symm hI2.2.1, hJc, hJd⟩ hb' r2 rk2⟩
end
end Pw
set_option Elab.async false
set_option maxRecDepth 100000
set_option maxHeartbeats 4000000
namespace Pw
open PySem PySem.Spec L2 PyProof.Rows
/-! data in the heap stays -/
mutual
theorem dp_same {K : PySem.W.Frag} {H H' : Hp} (s : Same H H') : ∀ (d : PyData) (v : V), Dp K H v d → Dp K H' v d
  | .none, _, h => by cases h; exact .non
  | .bool _, _, h => by cases h; exact .bl _
  | .int _, _, h => by cases h; exact .int _
  | .str _, _, h => by cases h; exact .str _
  | .list ds, _, h => by
    cases h with
    | lst a b => exact .lst (s.seq a) (dp_sameAll s ds _ b)
  | .tuple ds, _, h => by
    cases h with
    | tup a b =>
      refine .tup ?_ (dp_sameAll s ds _ b)
      rcases a with (a | ⟨o, a⟩) | a
      · exact .inl (.inl (s _ _ a))
      · exact .inl (.inr ⟨o, s _ _ a⟩)
      · exact .inr a
  | .dict _, _, h => by cases h
theorem dp_sameAll {K : PySem.W.Frag} {H H' : Hp} (s : Same H H') : ∀ (ds : List PyData) (vs : List V), DpAll K H vs ds → DpAll K H' vs ds
  | [], _, h => by cases h; exact .nil
  | d :: ds, _, h => by
    cases h with
    | cons a b => exact .cons (dp_same s d _ a) (dp_sameAll s ds _ b)
end
/-- a def that tells each item's key -/
structure KeyD (K : PySem.W.Frag) (H : Hp) (sp : Sp) (bs : List Addr) (kd : Addr → PyData) : Prop where
  call : ∀ b ∈ bs, ∀ (H1 : Hp) (Q : VK), Same H H1 → (∀ v H2, Same H1 H2 → Dp K H2 v (kd b) → Q v H2) → sp [.ref b] H1 Q (fun _ _ _ => False)
  alike : ∀ b ∈ bs, ∀ b' ∈ bs, W.alike (kd b) (kd b') = true
  tup : ∀ b ∈ bs, ∃ x r, kd b = .tuple (x :: r)
  deep : ∀ b ∈ bs, (kd b).depth ≤ 8
  trans : ∀ a b c, W.dataLt (kd a) (kd b) = true → W.dataLt (kd b) (kd c) = true → W.dataLt (kd a) (kd c) = true
def keyAt (K : PySem.W.Frag) (bs : List Addr) (kd : Addr → PyData) (i : Nat) (v : V) (H : Hp) : Prop := ∃ b, bs[i]? = some b ∧ Dp K H v (kd b)
def ltAt (bs : List Addr) (kd : Addr → PyData) (i j : Nat) : Bool := W.dataLt (kd (bs.getD i 0)) (kd (bs.getD j 0))
theorem getD_of {bs : List Addr} {i : Nat} {b : Addr} (h : bs[i]? = some b) : bs.getD i 0 = b := by
  rw [List.getD_eq_getElem?_getD, h]
  rfl
section
variable {X : Cx} {σ : L2.St} {H : Hp} {f : Addr} {fd : FuncData} {ps : List Str} {sp : Sp} {bs : List Addr} {kd : Addr → PyData} {k : Nat} {B : Around}
theorem KeyD.keyF (D : KeyD X.K H sp bs kd) (F : FnOk X.prog X.w X.K X.mg X.base CX0 k f fd ps sp) (hr : Room k B) (hf : B.frames = some X.stack) (hb : Binds X.K fd ps []) : KeyF X B σ H f bs (keyAt X.K bs kd) :=
  keyF_of F hr hf hb (fun _ b H1 Q e sm q => D.call b (List.mem_of_getElem? e) H1 Q sm fun v H2 s2 h => q v H2 s2 ⟨b, e, h⟩) fun _ _ _ _ s2 ⟨b, e, h⟩ => ⟨b, e, dp_same s2 _ _ h⟩
theorem KeyD.cmp (D : KeyD X.K H sp bs kd) (hu : X.A.units + 20 < cLine) : MinCmp X σ (keyAt X.K bs kd) (ltAt bs kd) where
  lt := fun pins i j vi vj ui uj H1 s1 Q E I ki kj ri rj q => by
    obtain ⟨bi, ei, hi⟩ := ki
    obtain ⟨bj, ej, hj⟩ := kj
    obtain ⟨as, r1⟩ := Dp.reads I _ _ _ hi ri
    obtain ⟨cs, r2⟩ := Dp.reads I _ _ _ hj rj
    have mi := List.mem_of_getElem? ei
    have mj := List.mem_of_getElem? ej
    refine W.rcLt_alike _ _ X.A.in1 s1 _ _ _ _ r1 r2 (D.alike bi mi bj mj) ?_ ?_ X.prog X.w E Q ?_
    · obtain ⟨x, r, e⟩ := D.tup bi mi
      rw [e]
      exact fun q => nomatch q
    · have := D.deep bi mi
      have h2 := Nat.min_le_left (kd bi).depth (kd bj).depth
      show X.A.units + 1 + _ < cLine
      omega
    · unfold ltAt at q
      rw [getD_of ei, getD_of ej] at q
      exact q
theorem argBest_le {bt : Nat → Nat → Bool} : ∀ k, argBest bt k ≤ k
  | 0 => Nat.le_refl _
  | k + 1 => by
    show (if bt (k + 1) (argBest bt k) then k + 1 else argBest bt k) ≤ k + 1
    have := argBest_le (bt := bt) k
    split <;> omega
theorem argBest_no {bt : Nat → Nat → Bool} (tr : ∀ i j l, bt i j = true → bt j l = true → bt i l = true) (irr : ∀ i, bt i i = false) : ∀ k j, j ≤ k → bt j (argBest bt k) = false
  | 0, j, h => by
    have : j = 0 := by omega
    subst this
    exact irr 0
  | k + 1, j, h => by
    have ih := argBest_no tr irr k
    show bt j (if bt (k + 1) (argBest bt k) then k + 1 else argBest bt k) = false
    by_cases c : bt (k + 1) (argBest bt k) = true
    · rw [if_pos c]
      rcases Nat.lt_or_ge j (k + 1) with q | q
      · cases e : bt j (k + 1) with
        | false => rfl
        | true =>
          rw [← ih j (by omega)]
          exact (tr _ _ _ e c).symm
      · have : j = k + 1 := by omega
        subst this
        exact irr _
    · rw [if_neg c]
      rcases Nat.lt_or_ge j (k + 1) with q | q
      · exact ih j (by omega)
      · have : j = k + 1 := by omega
        subst this
        simpa using c
end
/-! min(xs, key=f, default=d) -/
def rMinK (K : PySem.W.Frag) (f : Addr) (sp : Sp) : List V → List V → Hp → VK → Prop := fun vs zs H Q => ∃ (a : Addr) (bs : List Addr) (d : V) (kd : Addr → PyData), vs = [.ref a] ∧ zs = [.ref f, d] ∧ SqL K H a (bs.map V.ref) ∧ KeyD K H sp bs kd ∧
  (bs = [] → Q d H) ∧ ∀ b H1, b ∈ bs → (∀ b' ∈ bs, W.dataLt (kd b') (kd b) = false) → Same H H1 → Q (.ref b) H1
theorem cr_minK {X : Cx} {f : Addr} {fd : FuncData} {ps : List Str} {sp : Sp} {k : Nat} (F : FnOk X.prog X.w X.K X.mg X.base CX0 k f fd ps sp) (hr : Room (k + 1) X.A) (hb : Binds X.K fd ps []) :
    CallRK X (.builtin "min") [Str.ofString "key", Str.ofString "default"] (rMinK X.K f sp) := by
  intro pins s σ H vs zs us ws Q I r rz h
  obtain ⟨a, bs, d, kd, rfl, rfl, hs, D, q0, q1⟩ := h
  obtain rfl := Vals.ref1 r
  obtain ⟨w1, w2, rfl, e1, e2⟩ := vals2 rz
  cases e1
  have hh := hr.hd
  obtain ⟨hl, hz⟩ := list_refs I hs
  have alt : a < s.heap.objs.size := by
    obtain ⟨o, ho, _⟩ := hl
    exact Heap.lt_size ho
  change wpAny (model X.prog X.w) X.A (call (.builtin "min") [.ref a] [(Str.ofString "key", .ref f), (Str.ofString "default", w2)]) _ _ s
  refine PyProof.Rows.kmk_tree PySem.F.kind_min PySem.F.plain_min PySem.F.entry_min (args_min_key_default _ _ _) ?_
  change wpAny (model X.prog X.w) X.A.in1 (Builtin.Builtins.bindParams "min" ["key", "default"] 0 ⟨[], [(Str.ofString "key", .ref f), (Str.ofString "default", w2)]⟩ >>= _) _ _ s
  have ebp : Builtin.Builtins.bindParams "min" ["key", "default"] 0 ⟨[], [(Str.ofString "key", .ref f), (Str.ofString "default", w2)]⟩ = pure [some (.ref f), some w2] := rfl
  refine wpAny_bind (wpAny_of_eq ebp (wpAny_bind (wpAny_pure (wpAny_bind (wpAny_pyIter_list hl (wpAny_bind (wpAny_newObj_type ?_)))))))
  have kp1 : ∀ b u, s.heap.get? b = some u → (s.heap.push { cls := .type "list_iterator", data := .fields #[.ref a, .int 0 0] }).get? b = some u := fun b u e => Heap.get?_push_of_some _ e
  have I1 : Inv X pins σ H { s with heap := s.heap.push { cls := .type "list_iterator", data := .fields #[.ref a, .int 0 0] } } := I.kept (t' := s.toks) kp1
  have fI := I.fpOk (H' := H) (Nat.le_refl s.heap.objs.size) (I.hok.fresh (Nat.le_refl _))
  have gI := Heap.get?_push_size s.heap (o := { cls := .type "list_iterator", data := .fields #[.ref a, .int 0 0] }) rfl
  generalize hq1 : s.heap.push { cls := .type "list_iterator", data := .fields #[.ref a, .int 0 0] } = h1 at kp1 I1 gI ⊢
  have sz1 : s.heap.objs.size < h1.objs.size := Heap.lt_size gI
  have kp2 : ∀ b u, h1.get? b = some u → (h1.push { cls := .type "list", data := .seq #[] 0 }).get? b = some u := fun b u e => Heap.get?_push_of_some _ e
  have I2 : Inv X pins σ H { s with heap := h1.push { cls := .type "list", data := .seq #[] 0 } } := I1.kept (t' := s.toks) kp2
  have fS := I1.fpOk (H' := H) (Nat.le_refl h1.objs.size) (I1.hok.fresh (Nat.le_refl _))
  have gS := Heap.get?_push_size h1 (o := { cls := .type "list", data := .seq #[] 0 }) rfl
  rw [loop_name]
  refine wpAny_pure ⟨plainId_quiet PySem.F.plain_min_loop _, ?_⟩
  change codeAny (model X.prog X.w) X.A (.builtin "min.loop" ⟨[.ref s.heap.objs.size, .ref f, .ref h1.objs.size], [(Str.ofString "default", w2)]⟩) _ { s with heap := h1.push { cls := .type "list", data := .seq #[] 0 } }
  have hitr : (h1.push { cls := .type "list", data := .seq #[] 0 }).IsListIter s.heap.objs.size a 0 := ⟨_, kp2 _ _ gI, rfl, rfl⟩
  rcases Nat.eq_zero_or_pos bs.length with hn | hn
  · have en : bs = [] := List.length_eq_zero_iff.mp hn
    subst en
    have W := (Walks.list (prog := X.prog) (w := X.w) (A := X.A.in1) hh s.heap.objs.size a (Nat.ne_of_lt alt) ([] : List Value).toArray).toS
    refine codeAny_min_loop_dflt W h1.objs.size (fun hm => by
      rcases List.mem_cons.mp hm with q | q
      · exact Nat.ne_of_gt sz1 q
      · exact Nat.ne_of_gt (Nat.lt_trans alt sz1) (List.mem_singleton.mp q)) ⟨hitr, (list_refs I2 hs).1⟩ gS fun s' hm => ?_
    rw [Moved.eq_with hm]
    refine ⟨d, H, held_turn (z := s.heap.objs.size) I2 fI fun b o hb e => hm.heap b o (by simpa using hb) e, e2, q0 rfl⟩
  · have R := D.trans
    refine min_first (a := a) (Rk := keyAt X.K bs kd) (bt := ltAt bs kd) hh (D.keyF F hr.in1 I.ok.frames hb) hs (D.cmp (by have := hr.un; omega)) (Nat.ne_of_gt sz1) (Nat.ne_of_lt alt) hn (fun H1 s1 b J sm hb' => ?_) I2 ⟨fS, gS, fun v q => by cases q⟩ ⟨fI, kp2 _ _ gI, fun v q => by cases q⟩ hitr
    refine ⟨.ref b, H1, J, rfl, q1 b H1 (List.mem_of_getElem? hb') (fun b' hb2 => ?_) sm⟩
    obtain ⟨j, hj⟩ := List.mem_iff_getElem?.mp hb2
    have lj := (List.getElem?_eq_some_iff.mp hj).1
    have irr : ∀ i, ltAt bs kd i i = false := fun i => W.dataLt_self _
    have := argBest_no (bt := ltAt bs kd) (fun i j l h1 h2 => D.trans _ _ _ h1 h2) irr (bs.length - 1) j (by omega)
    change W.dataLt (kd (bs.getD j 0)) (kd (bs.getD (argBest (ltAt bs kd) (bs.length - 1)) 0)) = false at this
    rw [getD_of hj, getD_of hb'] at this
    exact this
end Pw
set_option Elab.async false
set_option maxRecDepth 100000
set_option maxHeartbeats 4000000
namespace Pw
open PySem PySem.Spec L2 PyProof.Rows
theorem each_keys_of {X : Cx} {pins : List (Addr × Obj)} {σ : L2.St} {H1 : Hp} {s : Shared} (I : Inv X pins σ H1 s) {kd : Addr → PyData} : ∀ {bs : List Addr} {kvs : List V} {us : List Value}, Vals kvs us → Paired (fun v b => Dp X.K H1 v (kd b)) kvs bs → W.EachIs (fun v d => ∃ as, Reads s.heap v d as) us (bs.map kd)
  | _, _, _, .nil, .nil => .nil
  | _, _, _, .cons r t, .cons h q => .cons (Dp.reads I _ _ _ h r) (each_keys_of I t q)
theorem each_refs : ∀ bs : List Addr, W.EachIs (fun v b => v = Value.ref b) (bs.map Value.ref) bs
  | [] => .nil
  | _ :: bs => .cons rfl (each_refs bs)
theorem of_each_refs : ∀ {vs : List Value} {bs : List Addr}, W.EachIs (fun v b => v = Value.ref b) vs bs → vs = bs.map Value.ref
  | _, _, .nil => rfl
  | _, _, .cons h t => by
    rw [h, of_each_refs t]
    rfl
theorem vals_of_refs : ∀ bs : List Addr, Vals (bs.map V.ref) (bs.map Value.ref)
  | [] => .nil
  | b :: bs => .cons (show RelV (.ref b) (.ref b) from rfl) (vals_of_refs bs)
/-- sorted(xs, key=f) -/
def rSortK (K : PySem.W.Frag) (f : Addr) (sp : Sp) : List V → List V → Hp → VK → Prop := fun vs zs H Q => ∃ (a : Addr) (bs : List Addr) (kd : Addr → PyData), vs = [.ref a] ∧ zs = [.ref f] ∧ SqL K H a (bs.map V.ref) ∧ KeyD K H sp bs kd ∧
  ∀ H1 p, Same H H1 → H1 p = none → Q (.ref p) (upd H1 p (.lst ((bs.mergeSort (W.dataLe false kd)).map V.ref)))
theorem cr_sortK {X : Cx} {f : Addr} {fd : FuncData} {ps : List Str} {sp : Sp} {k : Nat} (F : FnOk X.prog X.w X.K X.mg X.base CX0 k f fd ps sp) (hr : Room (k + 2) X.A) (hb : Binds X.K fd ps []) :
    CallRK X (.builtin "sorted") [Str.ofString "key"] (rSortK X.K f sp) := by
  intro pins s σ H vs zs us ws Q I r rz h
  obtain ⟨l, bs, kd, rfl, rfl, hs, D, q⟩ := h
  obtain rfl := Vals.ref1 r
  obtain ⟨w1, rfl, e1⟩ := vals1 rz
  cases e1
  obtain ⟨hl, hz⟩ := list_refs I hs
  have KF : KeyF X X.A.in1.in1 σ H f bs (keyAt X.K bs kd) := D.keyF F (show Room k X.A.in1.in1 from (show Room (k + 1) X.A.in1 from hr.in1).in1) I.ok.frames hb
  have lv : (bs.map Value.ref).length = bs.length := List.length_map _
  change wpAny (model X.prog X.w) X.A (call (.builtin "sorted") [.ref l] [(Str.ofString "key", .ref f)]) _ _ s
  refine W.sorted_of_sort hl (by rw [lv]; exact hz) (ksk_s1 _ _) (fun _ => ksk_l1 _ _) fun E' => ?_
  rw [ksk_t1]
  -- the copy
  have kp0 : ∀ b u, s.heap.get? b = some u → (W.copyHeap s.heap (bs.map Value.ref)).get? b = some u := fun b u e => W.copyHeap_old e
  have I0 : Inv X pins σ H { s with heap := W.copyHeap s.heap (bs.map Value.ref) } := I.kept (t' := s.toks) kp0
  have fa : FpOk X pins H (s.heap.objs.size + 1) := I.fpOk (Nat.le_succ _) (I.hok.fresh (Nat.le_succ _))
  have ga := W.copyHeap_at s.heap (bs.map Value.ref)
  generalize hA : s.heap.objs.size + 1 = a at fa ga ⊢
  generalize W.copyHeap s.heap (bs.map Value.ref) = h0 at I0 ga ⊢
  unfold ksk_tree
  refine wpAny_bind (listItems_at ga rfl ?_)
  refine wpAny_bind (listUpdate_at ga rfl ?_ (by rw [List.size_toArray, lv]; exact hz) (Nat.zero_le _))
  have n1 : ∀ b o, b ≠ a → h0.get? b = some o → (h0.update a (Obj.mapSeq fun _ => (#[] : Array Value))).get? b = some o := fun b o hb e => (Heap.get?_update_other _ _ (Ne.symm hb)).trans e
  have I1 : Inv X pins σ H { s with heap := h0.update a (Obj.mapSeq fun _ => (#[] : Array Value)) } := held_turn (s := { s with heap := h0 }) (t' := s.toks) I0 fa n1
  obtain ⟨e1, g1⟩ : ∃ e1, (h0.update a (Obj.mapSeq fun _ => (#[] : Array Value))).get? a = some (seqObj "list" #[] e1) := ⟨_, get?_update_seq ga fun _ => #[]⟩
  generalize h0.update a (Obj.mapSeq fun _ => (#[] : Array Value)) = h1 at I1 g1 ⊢
  refine wpAny_bind (seqEpoch_at g1 rfl ?_)
  refine wpAny_bind (wpAny_newTuple ?_ (by show (bs.map Value.ref).length ≤ _; rw [lv]; exact hz))
  have I2 : Inv X pins σ H { s with heap := h1.push (seqObj "tuple" (bs.map Value.ref).toArray 0) } := I1.kept (t' := s.toks) fun b u e => Heap.get?_push_of_some _ e
  have g2 : (h1.push (seqObj "tuple" (bs.map Value.ref).toArray 0)).get? a = some (seqObj "list" #[] e1) := Heap.get?_push_of_some _ g1
  refine wpAny_bind (wpAny_newList ?_ (Nat.zero_le _))
  change wpAny (model X.prog X.w) X.A.in1.in1 _ _ _ { s with heap := (h1.push (seqObj "tuple" (bs.map Value.ref).toArray 0)).push (seqObj "list" #[] 0) }
  change wpAny (model X.prog X.w) X.A.in1.in1 (holding _ (ksk_rest a (.ref f) false (bs.map Value.ref).toArray e1 (.ref (h1.push (seqObj "tuple" (bs.map Value.ref).toArray 0)).objs.size))) _ _ _
  generalize h1.push (seqObj "tuple" (bs.map Value.ref).toArray 0) = h2 at I2 g2 ⊢
  have I3 : Inv X pins σ H { s with heap := h2.push (seqObj "list" #[] 0) } := I2.kept (t' := s.toks) fun b u e => Heap.get?_push_of_some _ e
  have g3 : (h2.push (seqObj "list" #[] 0)).get? a = some (seqObj "list" #[] e1) := Heap.get?_push_of_some _ g2
  have fk : FpOk X pins H h2.objs.size := I2.fpOk (Nat.le_refl _) (I2.hok.fresh (Nat.le_refl _))
  have gk : (h2.push (seqObj "list" #[] 0)).get? h2.objs.size = some (seqObj "list" #[] 0) := Heap.get?_push_size _ rfl
  have nka : h2.objs.size ≠ a := Nat.ne_of_gt (Heap.lt_size g2)
  generalize h2.push (seqObj "list" #[] 0) = h3 at I3 g3 gk ⊢
  generalize h2.objs.size = kS at fk gk nka ⊢
  refine wpAny_holding ?_
  unfold ksk_rest
  refine wpAny_bind (wpAny_rule ?_)
  first
    | rw [List.forIn_toArray]
    | (rw [← Array.forIn_toList]; simp only [List.toList_toArray])
  have noc : ∀ (xs : Array Value) (n : Nat) v, (seqObj "list" xs n).data ≠ .cell v := fun xs n v q => by cases q
  refine wpAny_bind (ksk_fold (fun i s' => ∃ H1 kA e kvs, Inv X pins σ H1 s' ∧ Same H H1 ∧ HeldO X pins H1 s'.heap (kS, seqObj "list" kA e) ∧ HeldO X pins H1 s'.heap (a, seqObj "list" #[] e1) ∧ Vals kvs kA.toList ∧ Paired (fun v b => Dp X.K H1 v (kd b)) kvs (bs.take i)) (bs.map Value.ref) 0 { s with heap := h3 } ?_ ?_ ?_)
  · exact ⟨H, #[], 0, [], I3, Same.refl H, ⟨fk, gk, noc _ _⟩, ⟨fa, g3, noc _ _⟩, .nil, by rw [List.take_zero]; exact .nil⟩
  · rintro j x s' hx ⟨H1, kA, e, kvs, J, sm, hk, ha, rv, rp⟩
    rw [Nat.zero_add] at rp ⊢
    rw [List.getElem?_map, Option.map_eq_some_iff] at hx
    obtain ⟨b, hbj, rfl⟩ := hx
    have hj : j < bs.length := (List.getElem?_eq_some_iff.mp hbj).1
    have lk : kA.size = j := by
      have e3 : kvs.length = kA.size := (Paired.length rv).trans Array.length_toList
      have e4 : kvs.length = (bs.take j).length := Paired.length rp
      rw [List.length_take, Nat.min_eq_left (Nat.le_of_lt hj)] at e4
      exact e3.symm.trans e4
    refine wpAny_bind (wpAny_attempt (held_call KF [(kS, seqObj "list" kA e), (a, seqObj "list" #[] e1)] J (fun p hp => ?_) hbj sm fun v u H2 s2 J2 s12 r2 rk held => ?_))
    · rcases List.mem_cons.mp hp with rfl | hp
      · exact hk
      · rw [List.mem_singleton.mp hp]
        exact ha
    have hk2 := held (kS, seqObj "list" kA e) (by simp)
    have ha2 := held (a, seqObj "list" #[] e1) (by simp)
    obtain ⟨b', e5, dpv⟩ := rk
    have eb : b' = b := Option.some.inj (e5.symm.trans hbj)
    subst eb
    refine wpAny_bind (listUpdate_at hk2.2.1 rfl ?_ (by omega) (Nat.le_trans (Nat.le_of_eq (Array.size_push ..)) (by omega)))
    have n2 : ∀ b o, b ≠ kS → s2.heap.get? b = some o → (s2.heap.update kS (Obj.mapSeq (·.push u))).get? b = some o := fun b o hb e => (Heap.get?_update_other _ _ (Ne.symm hb)).trans e
    obtain ⟨c2, g4⟩ : ∃ c2, (s2.heap.update kS (Obj.mapSeq (·.push u))).get? kS = some (seqObj "list" (kA.push u) c2) := ⟨_, get?_update_seq hk2.2.1 (·.push u)⟩
    refine wpAny_pure ⟨rfl, H2, kA.push u, c2, kvs ++ [v], held_turn (t' := s2.toks) J2 hk2.1 n2, sm.trans s12, ⟨hk2.1, g4, noc _ _⟩, ⟨ha2.1, n2 a _ nka.symm ha2.2.1, noc _ _⟩, ?_, ?_⟩
    · rw [Array.toList_push]
      exact Paired.snoc rv r2
    · rw [List.take_add_one, hbj]
      exact Paired.snoc (Paired.mapP rp fun v b h => dp_same s12 _ _ h) dpv
  · rintro s' ⟨H1, kA, e, kvs, J, sm, hk, ha, rv, rp⟩
    rw [Nat.zero_add, lv, List.take_length] at rp
    refine wpAny_bind (listItems_at hk.2.1 rfl ?_)
    have lk : kA.size = bs.length := by
      have e3 : kvs.length = kA.size := (Paired.length rv).trans Array.length_toList
      have e4 : kvs.length = bs.length := Paired.length rp
      exact e3.symm.trans e4
    have each := each_keys_of J rv rp
    have al : W.AllAlike (bs.map kd) := fun d hd d' hd' => by
      obtain ⟨b, hb, rfl⟩ := List.mem_map.mp hd
      obtain ⟨b', hb', rfl⟩ := List.mem_map.mp hd'
      exact D.alike b hb b' hb'
    have so : W.Sortable (bs.map kd) := .inl fun d hd => by
      obtain ⟨b, hb, rfl⟩ := List.mem_map.mp hd
      exact D.tup b hb
    have un := hr.un
    refine W.keyH_end (κ := W.dataKind s'.heap (bs.map kd)) (h₁ := W.hideAll s'.heap [kS]) (fun b o _ e => W.of_hideAll _ e) (W.hideAll_none _ (by simp)) hk.2.1 ha.2.1 nka
      (W.SortsAt.data each al so fun d hd => by
        obtain ⟨b, hb, rfl⟩ := List.mem_map.mp hd
        have := D.deep b hb
        show X.A.units + 1 + 1 + _ < cLine
        omega) (by rw [lk, lv]) (by rw [lv]; exact hz) fun h' tk c kp gf => ⟨rfl, ?_⟩
    have ko : W.KeyedOut false (bs.map kd) (bs.map Value.ref) (W.sortVals (W.dataKind s'.heap (bs.map kd)) false kA.toList (bs.map Value.ref)) := ⟨s'.heap, kA.toList, al, rfl, each⟩
    have eo := of_each_refs (W.keyedOut_each (bs := bs) kd ko (each_refs bs))
    rw [eo] at gf
    have kept : ∀ b o, b ≠ a → b ≠ kS → s'.heap.get? b = some o → h'.get? b = some o := fun b o h1 h2 e => kp b o h1 (W.hideAll_get _ e (by simpa using h2))
    have lo : (bs.mergeSort (W.dataLe false kd)).length = bs.length := List.length_mergeSort _
    have tr : ∀ b u, H1 b = some u → b ≠ a ∧ b ≠ kS := fun b u e => ⟨fun z => (by rw [z, ha.1.1] at e; cases e), fun z => (by rw [z, hk.1.1] at e; cases e)⟩
    have up : ∀ b u, H1 b = some u → upd H1 a (.lst ((bs.mergeSort (W.dataLe false kd)).map V.ref)) b = some u := fun b u e => (upd_ne (tr b u e).1).trans e
    refine ⟨.ref a, upd H1 a (.lst ((bs.mergeSort (W.dataLe false kd)).map V.ref)), ?_, rfl, q H1 a sm ha.1.1⟩
    refine J.step (g' := s'.gens) (d' := s'.drawn) (ch := [a, kS]) (fun b hb => ?_) (fun b o _ _ hc e _ => kept b o (fun z => hc (by simp [z])) (fun z => hc (by simp [z])) e) (fun b o _ _ hc e _ => ⟨o.slots, kept b o (fun z => hc (by simp [z])) (fun z => hc (by simp [z])) e⟩)
      (fun b o hc e n => (upd_ne (fun z => hc (by simp [z]))).trans n) (fun b o hc e => ⟨o, kept b o (fun z => hc (by simp [z])) (fun z => hc (by simp [z])) e⟩) (fun b xs e => up b _ e) (fun b o u e => up b _ e) (fun b ps e => ⟨#[], by rw [up b _ e]; simp⟩) (fun m hm => ?_) (fun b u e => ?_) J.bare
    · rcases List.mem_cons.mp hb with rfl | hb
      · exact ⟨ha.1.2.2.2.1, ha.1.2.1, ha.1.2.2.2.2.1, ha.1.2.2.2.2.2⟩
      · rw [List.mem_singleton.mp hb]
        exact ⟨hk.1.2.2.2.1, hk.1.2.1, hk.1.2.2.2.2.1, hk.1.2.2.2.2.2⟩
    · obtain ⟨o, es, ep, ho, rr⟩ := hm
      exact ⟨o, es, ep, kept _ o ha.1.2.1.symm hk.1.2.1.symm ho, rr⟩
    · by_cases hba : b = a
      · subst hba
        rw [upd_same] at e
        cases e
        exact ⟨by rw [List.length_map, lo]; exact hz, _, c, vals_of_refs _, gf⟩
      · rw [upd_ne hba] at e
        refine (J.hok b u e).stay (fun c v hc g => ?_) (fun c h => up c _ h) fun c xs h => up c _ h
        rcases hc with rfl | hc
        · exact kept c v (tr c u e).1 (tr c u e).2 g
        · exact kept c v (tr c _ hc).1 (tr c _ hc).2 g
end Pw
set_option Elab.async false
set_option maxRecDepth 100000
set_option maxHeartbeats 4000000
namespace Pw
open PySem PySem.Spec L2 PyProof.Rows
/-! a < b of alike data -/
def rLtD (K : PySem.W.Frag) : R2 := fun x y H Q => ∃ d e, Dp K H x d ∧ Dp K H y e ∧ W.alike d e = true ∧ d ≠ .none ∧ d.depth ≤ 8 ∧ Q (.bl (W.dataLt d e)) H
theorem op_ltD {X : Cx} (hu : X.A.units + 64 < cLine) : OpR X (compareOp .Lt) (rLtD X.K) := by
  intro pins s σ H x y v u Q I rx ry h
  obtain ⟨d, e, hd, he, al, nn, dp, q⟩ := h
  obtain ⟨as, r1⟩ := Dp.reads I d x v hd rx
  obtain ⟨cs, r2⟩ := Dp.reads I e y u he ry
  refine W.rcLt_alike d e X.A s v u as cs r1 r2 al nn ?_ X.prog X.w _ _ ⟨.bl (W.dataLt d e), H, I, rfl, q⟩
  have := Nat.min_le_left d.depth e.depth
  omega
/-! the order of trails -/
def flat (w : Ut09.Way) : List Nat := w.flatMap fun y => [y.1, y.2]
def natD (l : List Nat) : List PyData := l.map fun n => PyData.int ((n : Nat) : Int)
def ordD (c : Nat) (w : Ut09.Way) : PyData := .tuple [.int ((c : Nat) : Int), .list (natD (flat w))]
theorem natD_ints (l : List Nat) : natD l = (l.map fun n => ((n : Nat) : Int)).map .int := by
  unfold natD
  rw [List.map_map]
  rfl
theorem alike_ord (c c' : Nat) (w w' : Ut09.Way) : W.alike (ordD c w) (ordD c' w') = true := by
  unfold ordD
  rw [natD_ints, natD_ints]
  simp only [W.alike, W.alikeAll, W.alike_ints, Bool.and_self]
theorem depth_ord (c : Nat) (w : Ut09.Way) : (ordD c w).depth ≤ 8 := by
  unfold ordD
  rw [natD_ints]
  simp only [PyData.depth, PyData.depthAll, W.depth_ints]
  decide
theorem lt_flat : ∀ (a b : Ut09.Way), ((flat a).map (fun n => ((n : Nat) : Int)) < (flat b).map (fun n => ((n : Nat) : Int))) ↔ wayLt a b
  | [], [] => by simp [flat, wayLt]
  | [], y :: b => by simp [flat, wayLt]
  | x :: a, [] => by simp [flat, wayLt]
  | x :: a, y :: b => by
    have ih := lt_flat a b
    have e : ∀ (z : Ut09.Step) (w : Ut09.Way), (flat (z :: w)).map (fun n => ((n : Nat) : Int)) = ((z.1 : Nat) : Int) :: ((z.2 : Nat) : Int) :: (flat w).map (fun n => ((n : Nat) : Int)) := fun z w => rfl
    rw [e, e, List.cons_lt_cons_iff, List.cons_lt_cons_iff, ih]
    show _ ↔ (x.1 < y.1 ∨ (x.1 = y.1 ∧ (x.2 < y.2 ∨ (x.2 = y.2 ∧ wayLt a b))))
    constructor
    · rintro (h | ⟨h, h2 | ⟨h2, h3⟩⟩)
      · exact Or.inl (by omega)
      · exact Or.inr ⟨by omega, Or.inl (by omega)⟩
      · exact Or.inr ⟨by omega, Or.inr ⟨by omega, h3⟩⟩
    · rintro (h | ⟨h, h2 | ⟨h2, h3⟩⟩)
      · exact Or.inl (by omega)
      · exact Or.inr ⟨by omega, Or.inl (by omega)⟩
      · exact Or.inr ⟨by omega, Or.inr ⟨by omega, h3⟩⟩
theorem lt_ord (c c' : Nat) (w w' : Ut09.Way) : W.dataLt (ordD c w) (ordD c' w') = true ↔ c < c' ∨ (c = c' ∧ wayLt w w') := by
  have al := W.alike_ints ((flat w).map fun n => ((n : Nat) : Int)) ((flat w').map fun n => ((n : Nat) : Int))
  unfold ordD
  rw [W.dataLt_pair (by simp [W.alike]) (by rw [natD_ints, natD_ints]; simpa [W.alike] using al), W.dataLt_int, W.dataLt_list]
  have rl : PyProof.Rows.lexLt itemOrd (W.keyToksAll (natD (flat w))) (W.keyToksAll (natD (flat w'))) = decide (((flat w).map fun n => ((n : Nat) : Int)) < (flat w').map fun n => ((n : Nat) : Int)) := by
    rw [natD_ints, natD_ints]
    exact W.dataLt_ints _ _
  rw [rl]
  have ei : PyData.eqv (.int ((c : Nat) : Int)) (.int ((c' : Nat) : Int)) = decide (c = c') := by
    simp only [PyData.eqv]
    rw [Bool.eq_iff_iff, beq_iff_eq, decide_eq_true_eq]
    omega
  rw [ei]
  by_cases h : c = c'
  · subst h
    rw [if_pos (decide_eq_true rfl)]
    by_cases e : PyData.eqv (.list (natD (flat w))) (.list (natD (flat w'))) = true
    · rw [if_pos e]
      have e2 : (flat w).map (fun n => ((n : Nat) : Int)) = (flat w').map fun n => ((n : Nat) : Int) := by
        rw [PyData.eqv, natD_ints, natD_ints, eqv_intsI] at e
        exact of_decide_eq_true e
      constructor
      · intro q
        cases q
      · rintro (q | ⟨_, q⟩)
        · omega
        · have := (lt_flat w w').mpr q
          rw [e2] at this
          exact (List.lt_irrefl _ this).elim
    · rw [if_neg e, decide_eq_true_eq, lt_flat]
      constructor
      · exact fun q => Or.inr ⟨rfl, q⟩
      · rintro (q | ⟨_, q⟩)
        · omega
        · exact q
  · rw [if_neg (by simpa using h), decide_eq_true_eq]
    constructor
    · exact fun q => Or.inl (by omega)
    · rintro (q | ⟨q, _⟩)
      · omega
      · exact (h q).elim
theorem not_lt_ord {c c' : Nat} {w w' : Ut09.Way} : W.dataLt (ordD c' w') (ordD c w) = false ↔ noLater c w c' w' := by
  have e := lt_ord c' c w' w
  constructor
  · intro h
    have n : ¬ (c' < c ∨ (c' = c ∧ wayLt w' w)) := fun q => by
      rw [e.mpr q] at h
      cases h
    rcases noLater_total c w c' w' with q | q
    · exact q
    · rcases q with q | ⟨q, r | r⟩
      · exact (n (Or.inl q)).elim
      · exact Or.inr ⟨q.symm, Or.inl r.symm⟩
      · exact (n (Or.inr ⟨q, r⟩)).elim
  · intro h
    cases q : W.dataLt (ordD c' w') (ordD c w) with
    | false => rfl
    | true =>
      rcases e.mp q with z | ⟨z, z'⟩
      · rcases h with h | ⟨h, _⟩ <;> omega
      · rcases h with h | ⟨_, h | h⟩
        · omega
        · rw [h] at z'
          exact (wayLt_irrefl _ z').elim
        · exact (wayLt_irrefl _ (wayLt_trans z' h)).elim
theorem ord_trans {a b c : Nat × Ut09.Way} (h : W.dataLt (ordD a.1 a.2) (ordD b.1 b.2) = true) (g : W.dataLt (ordD b.1 b.2) (ordD c.1 c.2) = true) : W.dataLt (ordD a.1 a.2) (ordD c.1 c.2) = true := by
  rw [lt_ord] at h g ⊢
  rcases h with h | ⟨h, h'⟩
  · rcases g with g | ⟨g, _⟩
    · exact Or.inl (by omega)
    · exact Or.inl (by omega)
  · rcases g with g | ⟨g, g'⟩
    · exact Or.inl (by omega)
    · exact Or.inr ⟨by omega, wayLt_trans h' g'⟩
/-- sorted by their order -/
theorem sort_ord (kt : Addr → Tr) (bs : List Addr) : (bs.mergeSort (W.dataLe false fun b => ordD (kt b).cost (kt b).steps)).Perm bs ∧ (bs.mergeSort (W.dataLe false fun b => ordD (kt b).cost (kt b).steps)).Pairwise fun x y => better (kt x) (kt y) := by
  refine ⟨List.mergeSort_perm _ _, ?_⟩
  have le : ∀ x y : Addr, W.dataLe false (fun b => ordD (kt b).cost (kt b).steps) x y = true ↔ better (kt x) (kt y) := fun x y => by
    show (!W.dataLt (ordD (kt y).cost (kt y).steps) (ordD (kt x).cost (kt x).steps)) = true ↔ _
    rw [Bool.not_eq_true', not_lt_ord]
    rfl
  have h := List.pairwise_mergeSort (le := W.dataLe false fun b => ordD (kt b).cost (kt b).steps) (fun x y z h1 h2 => (le x z).mpr (noLater_trans ((le x y).mp h1) ((le y z).mp h2))) (fun x y => by
    rcases noLater_total (kt x).cost (kt x).steps (kt y).cost (kt y).steps with q | q
    · rw [(le x y).mpr q]
      rfl
    · rw [(le y x).mpr q, Bool.or_true]) bs
  exact h.imp fun h => (le _ _).mp h
end Pw
set_option Elab.async false
set_option maxRecDepth 100000
namespace Pw
open PySem PySem.Spec L2 PyProof.Rows
/-- a call of a local name that holds one of several defs -/
def tCallH (P : Program) (w : World) (K : PySem.W.Frag) (mg : Str → Option Value) (base : Heap) (k i : Nat) (t : TA) : TE := fun σ H Q => ∃ f sp, σ[i]? = some (some (.ref f)) ∧ Held P w K mg base k f sp ∧ t σ H fun vs H1 => sp vs H1 Q (fun _ _ _ => False)
theorem pe_callH {X : Cx} {k i : Nat} {x : Str} {p pos : Pos} {e : Expr} {es : List Expr} {t : TA} (hr : Room k X.A) (hN : X.N[i]? = some x) (hv : Vis X.env.scope x) (ha : PA X (e :: es) t)
    (hdb : (x == ("__debug__" : Str)) = false := by decide) (hcd : (x == ("__classdict__" : Str)) = false := by decide)
    (he : starEach (e :: es) X.env = (false, eval e X.env) :: starEach es X.env := by rfl) (hpl : (backTo pos (starEach es X.env)).any (·.1) = false := by rfl) : PE X (.Call (.Name x p) (e :: es) [] pos) (tCallH X.prog X.w X.K X.mg X.base k i t) := by
  refine ⟨fun pins s σ H Q I h => ?_⟩
  obtain ⟨f, sp, hs, hH, ht⟩ := h
  refine (pe_callA (k := k) (i := i) (S := fun g => if g = f then some sp else none) (fun g sp' e => ?_) hr hN hv ha hdb hcd he hpl).run pins s σ H Q I ⟨f, sp, hs, if_pos rfl, ht⟩
  by_cases c : g = f
  · subst c
    rw [if_pos rfl] at e
    cases e
    exact hH
  · rw [if_neg c] at e
    cases e
theorem hu3_of {A : Around} {k : Nat} (hr : Room k A) : A.units + 3 < cLine := Nat.lt_of_le_of_lt (Nat.add_le_add_left (by decide : 3 ≤ 64) _) hr.units
end Pw
set_option Elab.async false
set_option maxRecDepth 100000
set_option maxHeartbeats 4000000
namespace Pw
open PySem L2
def top (i : Nat) : Stmt := PySem.Challenge.pw_phraseways_s01_answers.main.body.getD i (.Pass ⟨0, 0, 0, 0⟩)
abbrev s_Phrase_init : Stmt := inClass (top 13) 0
abbrev N_Phrase_init : List Str := ["self", "number", "cost", "source", "target"]
theorem sc_Phrase_init : FnScope N_Phrase_init ["self", "number", "cost", "source", "target"] (defScope s_Phrase_init) := ⟨rfl, rfl, rfl, by decide +kernel, rfl, by decide +kernel, by decide +kernel⟩
abbrev s_Machine_init : Stmt := inClass (top 14) 0
abbrev N_Machine_init : List Str := ["self"]
theorem sc_Machine_init : FnScope N_Machine_init ["self"] (defScope s_Machine_init) := ⟨rfl, rfl, rfl, by decide +kernel, rfl, by decide +kernel, by decide +kernel⟩
abbrev s_Machine_add_phrase : Stmt := inClass (top 14) 1
abbrev N_Machine_add_phrase : List Str := ["self", "cost", "source", "target", "number"]
theorem sc_Machine_add_phrase : FnScope N_Machine_add_phrase ["self", "cost", "source", "target"] (defScope s_Machine_add_phrase) := ⟨rfl, rfl, rfl, by decide +kernel, rfl, by decide +kernel, by decide +kernel⟩
abbrev s_Machine_drop_phrase : Stmt := inClass (top 14) 2
abbrev N_Machine_drop_phrase : List Str := ["self", "number", "kept", "phrase"]
theorem sc_Machine_drop_phrase : FnScope N_Machine_drop_phrase ["self", "number"] (defScope s_Machine_drop_phrase) := ⟨rfl, rfl, rfl, by decide +kernel, rfl, by decide +kernel, by decide +kernel⟩
abbrev s_Machine_phrase_numbered : Stmt := inClass (top 14) 3
abbrev N_Machine_phrase_numbered : List Str := ["self", "number", "phrase"]
theorem sc_Machine_phrase_numbered : FnScope N_Machine_phrase_numbered ["self", "number"] (defScope s_Machine_phrase_numbered) := ⟨rfl, rfl, rfl, by decide +kernel, rfl, by decide +kernel, by decide +kernel⟩
abbrev s_Machine_tell_pair : Stmt := inClass (top 14) 4
abbrev N_Machine_tell_pair : List Str := ["self", "first", "second", "cost", "key"]
theorem sc_Machine_tell_pair : FnScope N_Machine_tell_pair ["self", "first", "second", "cost"] (defScope s_Machine_tell_pair) := ⟨rfl, rfl, rfl, by decide +kernel, rfl, by decide +kernel, by decide +kernel⟩
abbrev s_Machine_set_prices : Stmt := inClass (top 14) 5
abbrev N_Machine_set_prices : List Str := ["self", "other", "jump", "wide"]
theorem sc_Machine_set_prices : FnScope N_Machine_set_prices ["self", "other", "jump", "wide"] (defScope s_Machine_set_prices) := ⟨rfl, rfl, rfl, by decide +kernel, rfl, by decide +kernel, by decide +kernel⟩
abbrev s_Machine_cost_behind : Stmt := inClass (top 14) 6
abbrev N_Machine_cost_behind : List Str := ["self", "first", "second"]
theorem sc_Machine_cost_behind : FnScope N_Machine_cost_behind ["self", "first", "second"] (defScope s_Machine_cost_behind) := ⟨rfl, rfl, rfl, by decide +kernel, rfl, by decide +kernel, by decide +kernel⟩
abbrev s_are_words : Stmt := top 15
abbrev N_are_words : List Str := ["numbers", "number"]
theorem sc_are_words : FnScope N_are_words ["numbers"] (defScope s_are_words) := ⟨rfl, rfl, rfl, by decide +kernel, rfl, by decide +kernel, by decide +kernel⟩
abbrev s_is_sentence : Stmt := top 16
abbrev N_is_sentence : List Str := ["numbers", "longest"]
theorem sc_is_sentence : FnScope N_is_sentence ["numbers", "longest"] (defScope s_is_sentence) := ⟨rfl, rfl, rfl, by decide +kernel, rfl, by decide +kernel, by decide +kernel⟩
abbrev s_is_source : Stmt := top 17
abbrev N_is_source : List Str := ["numbers"]
theorem sc_is_source : FnScope N_is_source ["numbers"] (defScope s_is_source) := ⟨rfl, rfl, rfl, by decide +kernel, rfl, by decide +kernel, by decide +kernel⟩
abbrev s_Trail_init : Stmt := inClass (top 19) 0
abbrev N_Trail_init : List Str := ["self", "cost", "steps", "words", "taken", "ended"]
theorem sc_Trail_init : FnScope N_Trail_init ["self", "cost", "steps", "words", "taken", "ended"] (defScope s_Trail_init) := ⟨rfl, rfl, rfl, by decide +kernel, rfl, by decide +kernel, by decide +kernel⟩
abbrev s_cheapest_way : Stmt := top 20
abbrev N_cheapest_way : List Str := ["machine", "sentence"]
theorem sc_cheapest_way : FnScope N_cheapest_way ["machine", "sentence"] (defScope s_cheapest_way) := ⟨rfl, rfl, rfl, by decide +kernel, rfl, by decide +kernel, by decide +kernel⟩
abbrev s_cheapest_way_to_say : Stmt := top 21
abbrev N_cheapest_way_to_say : List Str := ["machine", "sentence", "said", "ways", "way"]
theorem sc_cheapest_way_to_say : FnScope N_cheapest_way_to_say ["machine", "sentence", "said"] (defScope s_cheapest_way_to_say) := ⟨rfl, rfl, rfl, by decide +kernel, rfl, by decide +kernel, by decide +kernel⟩
abbrev s_cheapest_sentences : Stmt := top 22
abbrev N_cheapest_sentences : List Str := ["machine", "sentence", "much", "ways"]
theorem sc_cheapest_sentences : FnScope N_cheapest_sentences ["machine", "sentence", "much"] (defScope s_cheapest_sentences) := ⟨rfl, rfl, rfl, by decide +kernel, rfl, by decide +kernel, by decide +kernel⟩
abbrev s_way_by_steps : Stmt := top 23
abbrev N_way_by_steps : List Str := ["machine", "sentence", "steps", "trail", "place", "phrase"]
theorem sc_way_by_steps : FnScope N_way_by_steps ["machine", "sentence", "steps"] (defScope s_way_by_steps) := ⟨rfl, rfl, rfl, by decide +kernel, rfl, by decide +kernel, by decide +kernel⟩
abbrev s_whole_ways : Stmt := top 24
abbrev N_whole_ways : List Str := ["machine", "sentence", "standing_of", "said", "ways", "trails", "longer", "trail"]
theorem sc_whole_ways : FnScope N_whole_ways ["machine", "sentence", "standing_of", "said"] (defScope s_whole_ways) := ⟨rfl, rfl, rfl, by decide +kernel, rfl, by decide +kernel, by decide +kernel⟩
abbrev s_beginning : Stmt := top 25
abbrev N_beginning : List Str := []
theorem sc_beginning : FnScope N_beginning [] (defScope s_beginning) := ⟨rfl, rfl, rfl, by decide +kernel, rfl, by decide +kernel, by decide +kernel⟩
abbrev s_is_whole : Stmt := top 26
abbrev N_is_whole : List Str := ["sentence", "trail"]
theorem sc_is_whole : FnScope N_is_whole ["sentence", "trail"] (defScope s_is_whole) := ⟨rfl, rfl, rfl, by decide +kernel, rfl, by decide +kernel, by decide +kernel⟩
abbrev s_bits_between : Stmt := top 27
abbrev N_bits_between : List Str := ["start", "end"]
theorem sc_bits_between : FnScope N_bits_between ["start", "end"] (defScope s_bits_between) := ⟨rfl, rfl, rfl, by decide +kernel, rfl, by decide +kernel, by decide +kernel⟩
abbrev s_may_become : Stmt := top 28
abbrev N_may_become : List Str := ["trail", "said"]
theorem sc_may_become : FnScope N_may_become ["trail", "said"] (defScope s_may_become) := ⟨rfl, rfl, rfl, by decide +kernel, rfl, by decide +kernel, by decide +kernel⟩
abbrev s_last_word : Stmt := top 29
abbrev N_last_word : List Str := ["words"]
theorem sc_last_word : FnScope N_last_word ["words"] (defScope s_last_word) := ⟨rfl, rfl, rfl, by decide +kernel, rfl, by decide +kernel, by decide +kernel⟩
abbrev s_closed : Stmt := top 30
abbrev N_closed : List Str := ["machine", "trail", "cost"]
theorem sc_closed : FnScope N_closed ["machine", "trail"] (defScope s_closed) := ⟨rfl, rfl, rfl, by decide +kernel, rfl, by decide +kernel, by decide +kernel⟩
abbrev s_order_of : Stmt := top 31
abbrev N_order_of : List Str := ["trail"]
theorem sc_order_of : FnScope N_order_of ["trail"] (defScope s_order_of) := ⟨rfl, rfl, rfl, by decide +kernel, rfl, by decide +kernel, by decide +kernel⟩
abbrev s_cheapest_of : Stmt := top 32
abbrev N_cheapest_of : List Str := ["ways"]
theorem sc_cheapest_of : FnScope N_cheapest_of ["ways"] (defScope s_cheapest_of) := ⟨rfl, rfl, rfl, by decide +kernel, rfl, by decide +kernel, by decide +kernel⟩
abbrev s_taken_and_last_word : Stmt := top 33
abbrev N_taken_and_last_word : List Str := ["trail"]
theorem sc_taken_and_last_word : FnScope N_taken_and_last_word ["trail"] (defScope s_taken_and_last_word) := ⟨rfl, rfl, rfl, by decide +kernel, rfl, by decide +kernel, by decide +kernel⟩
abbrev s_taken_and_words : Stmt := top 34
abbrev N_taken_and_words : List Str := ["trail"]
theorem sc_taken_and_words : FnScope N_taken_and_words ["trail"] (defScope s_taken_and_words) := ⟨rfl, rfl, rfl, by decide +kernel, rfl, by decide +kernel, by decide +kernel⟩
abbrev s_words_of : Stmt := top 35
abbrev N_words_of : List Str := ["trail"]
theorem sc_words_of : FnScope N_words_of ["trail"] (defScope s_words_of) := ⟨rfl, rfl, rfl, by decide +kernel, rfl, by decide +kernel, by decide +kernel⟩
abbrev s_first_of_each : Stmt := top 36
abbrev N_first_of_each : List Str := ["trails", "standing_of", "kept", "trail", "standing"]
theorem sc_first_of_each : FnScope N_first_of_each ["trails", "standing_of"] (defScope s_first_of_each) := ⟨rfl, rfl, rfl, by decide +kernel, rfl, by decide +kernel, by decide +kernel⟩
abbrev s_longer_trails : Stmt := top 37
abbrev N_longer_trails : List Str := ["machine", "sentence", "trails", "longer", "trail", "start", "phrase"]
theorem sc_longer_trails : FnScope N_longer_trails ["machine", "sentence", "trails"] (defScope s_longer_trails) := ⟨rfl, rfl, rfl, by decide +kernel, rfl, by decide +kernel, by decide +kernel⟩
abbrev s_may_step : Stmt := top 38
abbrev N_may_step : List Str := ["machine", "sentence", "trail", "start", "phrase", "end"]
theorem sc_may_step : FnScope N_may_step ["machine", "sentence", "trail", "start", "phrase"] (defScope s_may_step) := ⟨rfl, rfl, rfl, by decide +kernel, rfl, by decide +kernel, by decide +kernel⟩
abbrev s_stepped : Stmt := top 39
abbrev N_stepped : List Str := ["machine", "trail", "start", "phrase", "end", "cost", "steps", "taken"]
theorem sc_stepped : FnScope N_stepped ["machine", "trail", "start", "phrase"] (defScope s_stepped) := ⟨rfl, rfl, rfl, by decide +kernel, rfl, by decide +kernel, by decide +kernel⟩
abbrev s_cost_of_words : Stmt := top 40
abbrev N_cost_of_words : List Str := ["machine", "ahead", "words", "cost", "word"]
theorem sc_cost_of_words : FnScope N_cost_of_words ["machine", "ahead", "words"] (defScope s_cost_of_words) := ⟨rfl, rfl, rfl, by decide +kernel, rfl, by decide +kernel, by decide +kernel⟩
abbrev s_Reader_init : Stmt := inClass (top 57) 0
abbrev N_Reader_init : List Str := ["self", "numbers"]
theorem sc_Reader_init : FnScope N_Reader_init ["self", "numbers"] (defScope s_Reader_init) := ⟨rfl, rfl, rfl, by decide +kernel, rfl, by decide +kernel, by decide +kernel⟩
abbrev s_Reader_has_more : Stmt := inClass (top 57) 1
abbrev N_Reader_has_more : List Str := ["self"]
theorem sc_Reader_has_more : FnScope N_Reader_has_more ["self"] (defScope s_Reader_has_more) := ⟨rfl, rfl, rfl, by decide +kernel, rfl, by decide +kernel, by decide +kernel⟩
abbrev s_Reader_take : Stmt := inClass (top 57) 2
abbrev N_Reader_take : List Str := ["self", "number"]
theorem sc_Reader_take : FnScope N_Reader_take ["self"] (defScope s_Reader_take) := ⟨rfl, rfl, rfl, by decide +kernel, rfl, by decide +kernel, by decide +kernel⟩
abbrev s_Reader_take_row : Stmt := inClass (top 57) 3
abbrev N_Reader_take_row : List Str := ["self", "length", "start"]
theorem sc_Reader_take_row : FnScope N_Reader_take_row ["self"] (defScope s_Reader_take_row) := ⟨rfl, rfl, rfl, by decide +kernel, rfl, by decide +kernel, by decide +kernel⟩
abbrev s_answers : Stmt := top 58
abbrev N_answers : List Str := ["calls", "machine", "reader", "told", "answer"]
theorem sc_answers : FnScope N_answers ["calls"] (defScope s_answers) := ⟨rfl, rfl, rfl, by decide +kernel, rfl, by decide +kernel, by decide +kernel⟩
abbrev s_answer_call : Stmt := top 59
abbrev N_answer_call : List Str := ["machine", "reader", "call"]
theorem sc_answer_call : FnScope N_answer_call ["machine", "reader"] (defScope s_answer_call) := ⟨rfl, rfl, rfl, by decide +kernel, rfl, by decide +kernel, by decide +kernel⟩
abbrev s_answer_phrase : Stmt := top 60
abbrev N_answer_phrase : List Str := ["machine", "reader", "cost", "source", "target"]
theorem sc_answer_phrase : FnScope N_answer_phrase ["machine", "reader"] (defScope s_answer_phrase) := ⟨rfl, rfl, rfl, by decide +kernel, rfl, by decide +kernel, by decide +kernel⟩
abbrev s_answer_pair : Stmt := top 61
abbrev N_answer_pair : List Str := ["machine", "reader", "first", "second", "cost"]
theorem sc_answer_pair : FnScope N_answer_pair ["machine", "reader"] (defScope s_answer_pair) := ⟨rfl, rfl, rfl, by decide +kernel, rfl, by decide +kernel, by decide +kernel⟩
abbrev s_answer_prices : Stmt := top 62
abbrev N_answer_prices : List Str := ["machine", "reader", "other", "jump", "wide"]
theorem sc_answer_prices : FnScope N_answer_prices ["machine", "reader"] (defScope s_answer_prices) := ⟨rfl, rfl, rfl, by decide +kernel, rfl, by decide +kernel, by decide +kernel⟩
abbrev s_answer_translate : Stmt := top 63
abbrev N_answer_translate : List Str := ["machine", "reader", "sentence"]
theorem sc_answer_translate : FnScope N_answer_translate ["machine", "reader"] (defScope s_answer_translate) := ⟨rfl, rfl, rfl, by decide +kernel, rfl, by decide +kernel, by decide +kernel⟩
abbrev s_answer_force : Stmt := top 64
abbrev N_answer_force : List Str := ["machine", "reader", "sentence", "said"]
theorem sc_answer_force : FnScope N_answer_force ["machine", "reader"] (defScope s_answer_force) := ⟨rfl, rfl, rfl, by decide +kernel, rfl, by decide +kernel, by decide +kernel⟩
abbrev s_answer_cost : Stmt := top 65
abbrev N_answer_cost : List Str := ["machine", "reader", "sentence", "steps", "way"]
theorem sc_answer_cost : FnScope N_answer_cost ["machine", "reader"] (defScope s_answer_cost) := ⟨rfl, rfl, rfl, by decide +kernel, rfl, by decide +kernel, by decide +kernel⟩
abbrev s_answer_some : Stmt := top 66
abbrev N_answer_some : List Str := ["machine", "reader", "much", "sentence", "ways", "told", "way"]
theorem sc_answer_some : FnScope N_answer_some ["machine", "reader"] (defScope s_answer_some) := ⟨rfl, rfl, rfl, by decide +kernel, rfl, by decide +kernel, by decide +kernel⟩
abbrev s_told_phrases : Stmt := top 67
abbrev N_told_phrases : List Str := ["machine", "told", "phrase"]
theorem sc_told_phrases : FnScope N_told_phrases ["machine"] (defScope s_told_phrases) := ⟨rfl, rfl, rfl, by decide +kernel, rfl, by decide +kernel, by decide +kernel⟩
abbrev s_told_way_if_any : Stmt := top 68
abbrev N_told_way_if_any : List Str := ["way"]
theorem sc_told_way_if_any : FnScope N_told_way_if_any ["way"] (defScope s_told_way_if_any) := ⟨rfl, rfl, rfl, by decide +kernel, rfl, by decide +kernel, by decide +kernel⟩
abbrev s_told_way : Stmt := top 69
abbrev N_told_way : List Str := ["way"]
theorem sc_told_way : FnScope N_told_way ["way"] (defScope s_told_way) := ⟨rfl, rfl, rfl, by decide +kernel, rfl, by decide +kernel, by decide +kernel⟩
abbrev s_counted : Stmt := top 70
abbrev N_counted : List Str := ["row"]
theorem sc_counted : FnScope N_counted ["row"] (defScope s_counted) := ⟨rfl, rfl, rfl, by decide +kernel, rfl, by decide +kernel, by decide +kernel⟩
/-- where the top has put things -/
structure Ad where
  C_Phrase : Addr
  C_Machine : Addr
  C_Trail : Addr
  C_Reader : Addr
  f_Phrase_init : Addr
  d_Phrase_init : FuncData
  f_Machine_init : Addr
  d_Machine_init : FuncData
  f_Machine_add_phrase : Addr
  d_Machine_add_phrase : FuncData
  f_Machine_drop_phrase : Addr
  d_Machine_drop_phrase : FuncData
  f_Machine_phrase_numbered : Addr
  d_Machine_phrase_numbered : FuncData
  f_Machine_tell_pair : Addr
  d_Machine_tell_pair : FuncData
  f_Machine_set_prices : Addr
  d_Machine_set_prices : FuncData
  f_Machine_cost_behind : Addr
  d_Machine_cost_behind : FuncData
  f_are_words : Addr
  d_are_words : FuncData
  f_is_sentence : Addr
  d_is_sentence : FuncData
  f_is_source : Addr
  d_is_source : FuncData
  f_Trail_init : Addr
  d_Trail_init : FuncData
  f_cheapest_way : Addr
  d_cheapest_way : FuncData
  f_cheapest_way_to_say : Addr
  d_cheapest_way_to_say : FuncData
  f_cheapest_sentences : Addr
  d_cheapest_sentences : FuncData
  f_way_by_steps : Addr
  d_way_by_steps : FuncData
  f_whole_ways : Addr
  d_whole_ways : FuncData
  f_beginning : Addr
  d_beginning : FuncData
  f_is_whole : Addr
  d_is_whole : FuncData
  f_bits_between : Addr
  d_bits_between : FuncData
  f_may_become : Addr
  d_may_become : FuncData
  f_last_word : Addr
  d_last_word : FuncData
  f_closed : Addr
  d_closed : FuncData
  f_order_of : Addr
  d_order_of : FuncData
  f_cheapest_of : Addr
  d_cheapest_of : FuncData
  f_taken_and_last_word : Addr
  d_taken_and_last_word : FuncData
  f_taken_and_words : Addr
  d_taken_and_words : FuncData
  f_words_of : Addr
  d_words_of : FuncData
  f_first_of_each : Addr
  d_first_of_each : FuncData
  f_longer_trails : Addr
  d_longer_trails : FuncData
  f_may_step : Addr
  d_may_step : FuncData
  f_stepped : Addr
  d_stepped : FuncData
  f_cost_of_words : Addr
  d_cost_of_words : FuncData
  f_Reader_init : Addr
  d_Reader_init : FuncData
  f_Reader_has_more : Addr
  d_Reader_has_more : FuncData
  f_Reader_take : Addr
  d_Reader_take : FuncData
  f_Reader_take_row : Addr
  d_Reader_take_row : FuncData
  f_answers : Addr
  d_answers : FuncData
  f_answer_call : Addr
  d_answer_call : FuncData
  f_answer_phrase : Addr
  d_answer_phrase : FuncData
  f_answer_pair : Addr
  d_answer_pair : FuncData
  f_answer_prices : Addr
  d_answer_prices : FuncData
  f_answer_translate : Addr
  d_answer_translate : FuncData
  f_answer_force : Addr
  d_answer_force : FuncData
  f_answer_cost : Addr
  d_answer_cost : FuncData
  f_answer_some : Addr
  d_answer_some : FuncData
  f_told_phrases : Addr
  d_told_phrases : FuncData
  f_told_way_if_any : Addr
  d_told_way_if_any : FuncData
  f_told_way : Addr
  d_told_way : FuncData
  f_counted : Addr
  d_counted : FuncData
  t_WRONG : Tok
  t_NO_SUCH_PHRASE : Tok
  t_FULL : Tok
  t_NO_WAY : Tok
  t_HIGHEST_WORD : Tok
  t_HIGHEST_COST : Tok
  t_LONGEST_SOURCE : Tok
  t_LONGEST_TARGET : Tok
  t_WIDEST : Tok
  t_MOST_PHRASES : Tok
  t_MOST_PAIRS : Tok
  t_NO_MORE : Tok
  t_PHRASE : Tok
  t_GONE : Tok
  t_PAIR : Tok
  t_PRICES : Tok
  t_TRANSLATE : Tok
  t_FORCE : Tok
  t_COST : Tok
  t_SOME : Tok
  t_PHRASES : Tok
  t_LONGEST_SENTENCE : Tok
  t_LONGEST_SAID : Tok
  t_LONGEST_FOR_SOME : Tok
  t_MOST_STEPS : Tok
  t_MOST_SENTENCES : Tok
structure Txt (K : PySem.W.Frag) (mg : Str → Option Value) (A : Ad) : Prop where
  cl_Phrase : Cls K A.C_Phrase
  mk_Phrase : Mk K A.C_Phrase A.f_Phrase_init
  g_Phrase : mg "Phrase" = some (.ref A.C_Phrase)
  n_Phrase_number : NoAttr K A.C_Phrase "number"
  n_Phrase_cost : NoAttr K A.C_Phrase "cost"
  n_Phrase_source : NoAttr K A.C_Phrase "source"
  n_Phrase_target : NoAttr K A.C_Phrase "target"
  cl_Machine : Cls K A.C_Machine
  mk_Machine : Mk K A.C_Machine A.f_Machine_init
  g_Machine : mg "Machine" = some (.ref A.C_Machine)
  n_Machine_phrases : NoAttr K A.C_Machine "phrases"
  n_Machine_fresh_number : NoAttr K A.C_Machine "fresh_number"
  n_Machine_pair_costs : NoAttr K A.C_Machine "pair_costs"
  n_Machine_other : NoAttr K A.C_Machine "other"
  n_Machine_jump : NoAttr K A.C_Machine "jump"
  n_Machine_wide : NoAttr K A.C_Machine "wide"
  cl_Trail : Cls K A.C_Trail
  mk_Trail : Mk K A.C_Trail A.f_Trail_init
  g_Trail : mg "Trail" = some (.ref A.C_Trail)
  n_Trail_cost : NoAttr K A.C_Trail "cost"
  n_Trail_steps : NoAttr K A.C_Trail "steps"
  n_Trail_words : NoAttr K A.C_Trail "words"
  n_Trail_taken : NoAttr K A.C_Trail "taken"
  n_Trail_ended : NoAttr K A.C_Trail "ended"
  cl_Reader : Cls K A.C_Reader
  mk_Reader : Mk K A.C_Reader A.f_Reader_init
  g_Reader : mg "Reader" = some (.ref A.C_Reader)
  n_Reader_numbers : NoAttr K A.C_Reader "numbers"
  n_Reader_place : NoAttr K A.C_Reader "place"
  F_Phrase_init : Fun K "__init__" "Phrase.__init__" s_Phrase_init A.f_Phrase_init A.d_Phrase_init
  b_Phrase_init : Binds K A.d_Phrase_init ["self", "number", "cost", "source", "target"] []
  F_Machine_init : Fun K "__init__" "Machine.__init__" s_Machine_init A.f_Machine_init A.d_Machine_init
  b_Machine_init : Binds K A.d_Machine_init ["self"] []
  F_Machine_add_phrase : Fun K "add_phrase" "Machine.add_phrase" s_Machine_add_phrase A.f_Machine_add_phrase A.d_Machine_add_phrase
  b_Machine_add_phrase : Binds K A.d_Machine_add_phrase ["self", "cost", "source", "target"] []
  m_Machine_add_phrase : Meth K A.C_Machine "add_phrase" A.f_Machine_add_phrase
  F_Machine_drop_phrase : Fun K "drop_phrase" "Machine.drop_phrase" s_Machine_drop_phrase A.f_Machine_drop_phrase A.d_Machine_drop_phrase
  b_Machine_drop_phrase : Binds K A.d_Machine_drop_phrase ["self", "number"] []
  m_Machine_drop_phrase : Meth K A.C_Machine "drop_phrase" A.f_Machine_drop_phrase
  F_Machine_phrase_numbered : Fun K "phrase_numbered" "Machine.phrase_numbered" s_Machine_phrase_numbered A.f_Machine_phrase_numbered A.d_Machine_phrase_numbered
  b_Machine_phrase_numbered : Binds K A.d_Machine_phrase_numbered ["self", "number"] []
  m_Machine_phrase_numbered : Meth K A.C_Machine "phrase_numbered" A.f_Machine_phrase_numbered
  F_Machine_tell_pair : Fun K "tell_pair" "Machine.tell_pair" s_Machine_tell_pair A.f_Machine_tell_pair A.d_Machine_tell_pair
  b_Machine_tell_pair : Binds K A.d_Machine_tell_pair ["self", "first", "second", "cost"] []
  m_Machine_tell_pair : Meth K A.C_Machine "tell_pair" A.f_Machine_tell_pair
  F_Machine_set_prices : Fun K "set_prices" "Machine.set_prices" s_Machine_set_prices A.f_Machine_set_prices A.d_Machine_set_prices
  b_Machine_set_prices : Binds K A.d_Machine_set_prices ["self", "other", "jump", "wide"] []
  m_Machine_set_prices : Meth K A.C_Machine "set_prices" A.f_Machine_set_prices
  F_Machine_cost_behind : Fun K "cost_behind" "Machine.cost_behind" s_Machine_cost_behind A.f_Machine_cost_behind A.d_Machine_cost_behind
  b_Machine_cost_behind : Binds K A.d_Machine_cost_behind ["self", "first", "second"] []
  m_Machine_cost_behind : Meth K A.C_Machine "cost_behind" A.f_Machine_cost_behind
  F_are_words : Fun K "are_words" "are_words" s_are_words A.f_are_words A.d_are_words
  b_are_words : Binds K A.d_are_words ["numbers"] []
  g_are_words : mg "are_words" = some (.ref A.f_are_words)
  k_are_words : PySem.W.keepIn K (.ref A.f_are_words) = true
  F_is_sentence : Fun K "is_sentence" "is_sentence" s_is_sentence A.f_is_sentence A.d_is_sentence
  b_is_sentence : Binds K A.d_is_sentence ["numbers", "longest"] []
  g_is_sentence : mg "is_sentence" = some (.ref A.f_is_sentence)
  k_is_sentence : PySem.W.keepIn K (.ref A.f_is_sentence) = true
  F_is_source : Fun K "is_source" "is_source" s_is_source A.f_is_source A.d_is_source
  b_is_source : Binds K A.d_is_source ["numbers"] []
  g_is_source : mg "is_source" = some (.ref A.f_is_source)
  k_is_source : PySem.W.keepIn K (.ref A.f_is_source) = true
  F_Trail_init : Fun K "__init__" "Trail.__init__" s_Trail_init A.f_Trail_init A.d_Trail_init
  b_Trail_init : Binds K A.d_Trail_init ["self", "cost", "steps", "words", "taken", "ended"] []
  F_cheapest_way : Fun K "cheapest_way" "cheapest_way" s_cheapest_way A.f_cheapest_way A.d_cheapest_way
  b_cheapest_way : Binds K A.d_cheapest_way ["machine", "sentence"] []
  g_cheapest_way : mg "cheapest_way" = some (.ref A.f_cheapest_way)
  k_cheapest_way : PySem.W.keepIn K (.ref A.f_cheapest_way) = true
  F_cheapest_way_to_say : Fun K "cheapest_way_to_say" "cheapest_way_to_say" s_cheapest_way_to_say A.f_cheapest_way_to_say A.d_cheapest_way_to_say
  b_cheapest_way_to_say : Binds K A.d_cheapest_way_to_say ["machine", "sentence", "said"] []
  g_cheapest_way_to_say : mg "cheapest_way_to_say" = some (.ref A.f_cheapest_way_to_say)
  k_cheapest_way_to_say : PySem.W.keepIn K (.ref A.f_cheapest_way_to_say) = true
  F_cheapest_sentences : Fun K "cheapest_sentences" "cheapest_sentences" s_cheapest_sentences A.f_cheapest_sentences A.d_cheapest_sentences
  b_cheapest_sentences : Binds K A.d_cheapest_sentences ["machine", "sentence", "much"] []
  g_cheapest_sentences : mg "cheapest_sentences" = some (.ref A.f_cheapest_sentences)
  k_cheapest_sentences : PySem.W.keepIn K (.ref A.f_cheapest_sentences) = true
  F_way_by_steps : Fun K "way_by_steps" "way_by_steps" s_way_by_steps A.f_way_by_steps A.d_way_by_steps
  b_way_by_steps : Binds K A.d_way_by_steps ["machine", "sentence", "steps"] []
  g_way_by_steps : mg "way_by_steps" = some (.ref A.f_way_by_steps)
  k_way_by_steps : PySem.W.keepIn K (.ref A.f_way_by_steps) = true
  F_whole_ways : Fun K "whole_ways" "whole_ways" s_whole_ways A.f_whole_ways A.d_whole_ways
  b_whole_ways : Binds K A.d_whole_ways ["machine", "sentence", "standing_of", "said"] []
  g_whole_ways : mg "whole_ways" = some (.ref A.f_whole_ways)
  k_whole_ways : PySem.W.keepIn K (.ref A.f_whole_ways) = true
  F_beginning : Fun K "beginning" "beginning" s_beginning A.f_beginning A.d_beginning
  b_beginning : Binds K A.d_beginning [] []
  g_beginning : mg "beginning" = some (.ref A.f_beginning)
  k_beginning : PySem.W.keepIn K (.ref A.f_beginning) = true
  F_is_whole : Fun K "is_whole" "is_whole" s_is_whole A.f_is_whole A.d_is_whole
  b_is_whole : Binds K A.d_is_whole ["sentence", "trail"] []
  g_is_whole : mg "is_whole" = some (.ref A.f_is_whole)
  k_is_whole : PySem.W.keepIn K (.ref A.f_is_whole) = true
  F_bits_between : Fun K "bits_between" "bits_between" s_bits_between A.f_bits_between A.d_bits_between
  b_bits_between : Binds K A.d_bits_between ["start", "end"] []
  g_bits_between : mg "bits_between" = some (.ref A.f_bits_between)
  k_bits_between : PySem.W.keepIn K (.ref A.f_bits_between) = true
  F_may_become : Fun K "may_become" "may_become" s_may_become A.f_may_become A.d_may_become
  b_may_become : Binds K A.d_may_become ["trail", "said"] []
  g_may_become : mg "may_become" = some (.ref A.f_may_become)
  k_may_become : PySem.W.keepIn K (.ref A.f_may_become) = true
  F_last_word : Fun K "last_word" "last_word" s_last_word A.f_last_word A.d_last_word
  b_last_word : Binds K A.d_last_word ["words"] []
  g_last_word : mg "last_word" = some (.ref A.f_last_word)
  k_last_word : PySem.W.keepIn K (.ref A.f_last_word) = true
  F_closed : Fun K "closed" "closed" s_closed A.f_closed A.d_closed
  b_closed : Binds K A.d_closed ["machine", "trail"] []
  g_closed : mg "closed" = some (.ref A.f_closed)
  k_closed : PySem.W.keepIn K (.ref A.f_closed) = true
  F_order_of : Fun K "order_of" "order_of" s_order_of A.f_order_of A.d_order_of
  b_order_of : Binds K A.d_order_of ["trail"] []
  g_order_of : mg "order_of" = some (.ref A.f_order_of)
  k_order_of : PySem.W.keepIn K (.ref A.f_order_of) = true
  F_cheapest_of : Fun K "cheapest_of" "cheapest_of" s_cheapest_of A.f_cheapest_of A.d_cheapest_of
  b_cheapest_of : Binds K A.d_cheapest_of ["ways"] []
  g_cheapest_of : mg "cheapest_of" = some (.ref A.f_cheapest_of)
  k_cheapest_of : PySem.W.keepIn K (.ref A.f_cheapest_of) = true
  F_taken_and_last_word : Fun K "taken_and_last_word" "taken_and_last_word" s_taken_and_last_word A.f_taken_and_last_word A.d_taken_and_last_word
  b_taken_and_last_word : Binds K A.d_taken_and_last_word ["trail"] []
  g_taken_and_last_word : mg "taken_and_last_word" = some (.ref A.f_taken_and_last_word)
  k_taken_and_last_word : PySem.W.keepIn K (.ref A.f_taken_and_last_word) = true
  F_taken_and_words : Fun K "taken_and_words" "taken_and_words" s_taken_and_words A.f_taken_and_words A.d_taken_and_words
  b_taken_and_words : Binds K A.d_taken_and_words ["trail"] []
  g_taken_and_words : mg "taken_and_words" = some (.ref A.f_taken_and_words)
  k_taken_and_words : PySem.W.keepIn K (.ref A.f_taken_and_words) = true
  F_words_of : Fun K "words_of" "words_of" s_words_of A.f_words_of A.d_words_of
  b_words_of : Binds K A.d_words_of ["trail"] []
  g_words_of : mg "words_of" = some (.ref A.f_words_of)
  k_words_of : PySem.W.keepIn K (.ref A.f_words_of) = true
  F_first_of_each : Fun K "first_of_each" "first_of_each" s_first_of_each A.f_first_of_each A.d_first_of_each
  b_first_of_each : Binds K A.d_first_of_each ["trails", "standing_of"] []
  g_first_of_each : mg "first_of_each" = some (.ref A.f_first_of_each)
  k_first_of_each : PySem.W.keepIn K (.ref A.f_first_of_each) = true
  F_longer_trails : Fun K "longer_trails" "longer_trails" s_longer_trails A.f_longer_trails A.d_longer_trails
  b_longer_trails : Binds K A.d_longer_trails ["machine", "sentence", "trails"] []
  g_longer_trails : mg "longer_trails" = some (.ref A.f_longer_trails)
  k_longer_trails : PySem.W.keepIn K (.ref A.f_longer_trails) = true
  F_may_step : Fun K "may_step" "may_step" s_may_step A.f_may_step A.d_may_step
  b_may_step : Binds K A.d_may_step ["machine", "sentence", "trail", "start", "phrase"] []
  g_may_step : mg "may_step" = some (.ref A.f_may_step)
  k_may_step : PySem.W.keepIn K (.ref A.f_may_step) = true
  F_stepped : Fun K "stepped" "stepped" s_stepped A.f_stepped A.d_stepped
  b_stepped : Binds K A.d_stepped ["machine", "trail", "start", "phrase"] []
  g_stepped : mg "stepped" = some (.ref A.f_stepped)
  k_stepped : PySem.W.keepIn K (.ref A.f_stepped) = true
  F_cost_of_words : Fun K "cost_of_words" "cost_of_words" s_cost_of_words A.f_cost_of_words A.d_cost_of_words
  b_cost_of_words : Binds K A.d_cost_of_words ["machine", "ahead", "words"] []
  g_cost_of_words : mg "cost_of_words" = some (.ref A.f_cost_of_words)
  k_cost_of_words : PySem.W.keepIn K (.ref A.f_cost_of_words) = true
  F_Reader_init : Fun K "__init__" "Reader.__init__" s_Reader_init A.f_Reader_init A.d_Reader_init
  b_Reader_init : Binds K A.d_Reader_init ["self", "numbers"] []
  F_Reader_has_more : Fun K "has_more" "Reader.has_more" s_Reader_has_more A.f_Reader_has_more A.d_Reader_has_more
  b_Reader_has_more : Binds K A.d_Reader_has_more ["self"] []
  m_Reader_has_more : Meth K A.C_Reader "has_more" A.f_Reader_has_more
  F_Reader_take : Fun K "take" "Reader.take" s_Reader_take A.f_Reader_take A.d_Reader_take
  b_Reader_take : Binds K A.d_Reader_take ["self"] []
  m_Reader_take : Meth K A.C_Reader "take" A.f_Reader_take
  F_Reader_take_row : Fun K "take_row" "Reader.take_row" s_Reader_take_row A.f_Reader_take_row A.d_Reader_take_row
  b_Reader_take_row : Binds K A.d_Reader_take_row ["self"] []
  m_Reader_take_row : Meth K A.C_Reader "take_row" A.f_Reader_take_row
  F_answers : Fun K "answers" "answers" s_answers A.f_answers A.d_answers
  b_answers : Binds K A.d_answers ["calls"] []
  g_answers : mg "answers" = some (.ref A.f_answers)
  k_answers : PySem.W.keepIn K (.ref A.f_answers) = true
  F_answer_call : Fun K "answer_call" "answer_call" s_answer_call A.f_answer_call A.d_answer_call
  b_answer_call : Binds K A.d_answer_call ["machine", "reader"] []
  g_answer_call : mg "answer_call" = some (.ref A.f_answer_call)
  k_answer_call : PySem.W.keepIn K (.ref A.f_answer_call) = true
  F_answer_phrase : Fun K "answer_phrase" "answer_phrase" s_answer_phrase A.f_answer_phrase A.d_answer_phrase
  b_answer_phrase : Binds K A.d_answer_phrase ["machine", "reader"] []
  g_answer_phrase : mg "answer_phrase" = some (.ref A.f_answer_phrase)
  k_answer_phrase : PySem.W.keepIn K (.ref A.f_answer_phrase) = true
  F_answer_pair : Fun K "answer_pair" "answer_pair" s_answer_pair A.f_answer_pair A.d_answer_pair
  b_answer_pair : Binds K A.d_answer_pair ["machine", "reader"] []
  g_answer_pair : mg "answer_pair" = some (.ref A.f_answer_pair)
  k_answer_pair : PySem.W.keepIn K (.ref A.f_answer_pair) = true
  F_answer_prices : Fun K "answer_prices" "answer_prices" s_answer_prices A.f_answer_prices A.d_answer_prices
  b_answer_prices : Binds K A.d_answer_prices ["machine", "reader"] []
  g_answer_prices : mg "answer_prices" = some (.ref A.f_answer_prices)
  k_answer_prices : PySem.W.keepIn K (.ref A.f_answer_prices) = true
  F_answer_translate : Fun K "answer_translate" "answer_translate" s_answer_translate A.f_answer_translate A.d_answer_translate
  b_answer_translate : Binds K A.d_answer_translate ["machine", "reader"] []
  g_answer_translate : mg "answer_translate" = some (.ref A.f_answer_translate)
  k_answer_translate : PySem.W.keepIn K (.ref A.f_answer_translate) = true
  F_answer_force : Fun K "answer_force" "answer_force" s_answer_force A.f_answer_force A.d_answer_force
  b_answer_force : Binds K A.d_answer_force ["machine", "reader"] []
  g_answer_force : mg "answer_force" = some (.ref A.f_answer_force)
  k_answer_force : PySem.W.keepIn K (.ref A.f_answer_force) = true
  F_answer_cost : Fun K "answer_cost" "answer_cost" s_answer_cost A.f_answer_cost A.d_answer_cost
  b_answer_cost : Binds K A.d_answer_cost ["machine", "reader"] []
  g_answer_cost : mg "answer_cost" = some (.ref A.f_answer_cost)
  k_answer_cost : PySem.W.keepIn K (.ref A.f_answer_cost) = true
  F_answer_some : Fun K "answer_some" "answer_some" s_answer_some A.f_answer_some A.d_answer_some
  b_answer_some : Binds K A.d_answer_some ["machine", "reader"] []
  g_answer_some : mg "answer_some" = some (.ref A.f_answer_some)
  k_answer_some : PySem.W.keepIn K (.ref A.f_answer_some) = true
  F_told_phrases : Fun K "told_phrases" "told_phrases" s_told_phrases A.f_told_phrases A.d_told_phrases
  b_told_phrases : Binds K A.d_told_phrases ["machine"] []
  g_told_phrases : mg "told_phrases" = some (.ref A.f_told_phrases)
  k_told_phrases : PySem.W.keepIn K (.ref A.f_told_phrases) = true
  F_told_way_if_any : Fun K "told_way_if_any" "told_way_if_any" s_told_way_if_any A.f_told_way_if_any A.d_told_way_if_any
  b_told_way_if_any : Binds K A.d_told_way_if_any ["way"] []
  g_told_way_if_any : mg "told_way_if_any" = some (.ref A.f_told_way_if_any)
  k_told_way_if_any : PySem.W.keepIn K (.ref A.f_told_way_if_any) = true
  F_told_way : Fun K "told_way" "told_way" s_told_way A.f_told_way A.d_told_way
  b_told_way : Binds K A.d_told_way ["way"] []
  g_told_way : mg "told_way" = some (.ref A.f_told_way)
  k_told_way : PySem.W.keepIn K (.ref A.f_told_way) = true
  F_counted : Fun K "counted" "counted" s_counted A.f_counted A.d_counted
  b_counted : Binds K A.d_counted ["row"] []
  g_counted : mg "counted" = some (.ref A.f_counted)
  k_counted : PySem.W.keepIn K (.ref A.f_counted) = true
  g_WRONG : mg "WRONG" = some (.int (-1) A.t_WRONG)
  g_NO_SUCH_PHRASE : mg "NO_SUCH_PHRASE" = some (.int (-2) A.t_NO_SUCH_PHRASE)
  g_FULL : mg "FULL" = some (.int (-5) A.t_FULL)
  g_NO_WAY : mg "NO_WAY" = some (.int (-6) A.t_NO_WAY)
  g_HIGHEST_WORD : mg "HIGHEST_WORD" = some (.int (99) A.t_HIGHEST_WORD)
  g_HIGHEST_COST : mg "HIGHEST_COST" = some (.int (999) A.t_HIGHEST_COST)
  g_LONGEST_SOURCE : mg "LONGEST_SOURCE" = some (.int (3) A.t_LONGEST_SOURCE)
  g_LONGEST_TARGET : mg "LONGEST_TARGET" = some (.int (3) A.t_LONGEST_TARGET)
  g_WIDEST : mg "WIDEST" = some (.int (6) A.t_WIDEST)
  g_MOST_PHRASES : mg "MOST_PHRASES" = some (.int (6) A.t_MOST_PHRASES)
  g_MOST_PAIRS : mg "MOST_PAIRS" = some (.int (20) A.t_MOST_PAIRS)
  g_NO_MORE : mg "NO_MORE" = some (.int (1000) A.t_NO_MORE)
  g_PHRASE : mg "PHRASE" = some (.int (0) A.t_PHRASE)
  g_GONE : mg "GONE" = some (.int (1) A.t_GONE)
  g_PAIR : mg "PAIR" = some (.int (2) A.t_PAIR)
  g_PRICES : mg "PRICES" = some (.int (3) A.t_PRICES)
  g_TRANSLATE : mg "TRANSLATE" = some (.int (4) A.t_TRANSLATE)
  g_FORCE : mg "FORCE" = some (.int (5) A.t_FORCE)
  g_COST : mg "COST" = some (.int (6) A.t_COST)
  g_SOME : mg "SOME" = some (.int (7) A.t_SOME)
  g_PHRASES : mg "PHRASES" = some (.int (8) A.t_PHRASES)
  g_LONGEST_SENTENCE : mg "LONGEST_SENTENCE" = some (.int (5) A.t_LONGEST_SENTENCE)
  g_LONGEST_SAID : mg "LONGEST_SAID" = some (.int (15) A.t_LONGEST_SAID)
  g_LONGEST_FOR_SOME : mg "LONGEST_FOR_SOME" = some (.int (3) A.t_LONGEST_FOR_SOME)
  g_MOST_STEPS : mg "MOST_STEPS" = some (.int (5) A.t_MOST_STEPS)
  g_MOST_SENTENCES : mg "MOST_SENTENCES" = some (.int (5) A.t_MOST_SENTENCES)
  b_abs : mg "abs" = none
  b_all : mg "all" = none
  b_len : mg "len" = none
  b_list : mg "list" = none
  b_min : mg "min" = none
  b_range : mg "range" = none
  b_sorted : mg "sorted" = none
  b_tuple : mg "tuple" = none
end Pw
set_option Elab.async false
set_option maxRecDepth 100000
set_option maxHeartbeats 4000000
namespace Pw
open PySem L2
/-! How things lie in the heap -/
def vN (l : List Nat) : List V := l.map fun n => V.int ((n : Nat) : Int)
theorem vN_length (l : List Nat) : (vN l).length = l.length := List.length_map _
theorem vN_append (a b : List Nat) : vN (a ++ b) = vN a ++ vN b := List.map_append
theorem vN_get {l : List Nat} {i : Nat} {x : V} (h : (vN l)[i]? = some x) : ∃ n, l[i]? = some n ∧ x = V.int ((n : Nat) : Int) := by
  unfold vN at h
  rw [List.getElem?_map] at h
  cases e : l[i]? with
  | none => rw [e] at h; cases h
  | some n => rw [e] at h; exact ⟨n, rfl, (Option.some.inj h).symm⟩
theorem take_more {α : Type} {l : List α} {i : Nat} {x : α} (h : l[i]? = some x) : l.take (i + 1) = l.take i ++ [x] := by
  rw [List.take_add_one, h]
  rfl
def LstN (H : Hp) (a : Addr) (l : List Nat) : Prop := H a = some (.lst (vN l))
/-- all but these is as it was -/
structure SameBut (ps : List Addr) (H H' : Hp) : Prop where
  at_ : ∀ b o, H b = some o → b ∉ ps → H' b = some o
  keep : ∀ b, H' b = none → H b = none
theorem Same.but {H H' : Hp} (s : Same H H') (ps : List Addr) : SameBut ps H H' := ⟨fun b o e _ => s b o e, fun _ h => s.free h⟩
theorem upd_none {H : Hp} {a b : Addr} {o : HO} (h : (upd H a o) b = none) : H b = none := by
  by_cases e : b = a
  · rw [e, upd_same] at h
    cases h
  · rw [upd_ne e] at h
    exact h
theorem same_new {H : Hp} {p : Addr} {o : HO} (h : H p = none) : Same H (upd H p o) := fun b q e => by
  rw [upd_ne (ne_of_none e h)]
  exact e
theorem LstN.same {H H' : Hp} {a : Addr} {l : List Nat} (s : Same H H') (h : LstN H a l) : LstN H' a l := s _ _ h
theorem LstN.sq {K : PySem.W.Frag} {H : Hp} {a : Addr} {l : List Nat} (h : LstN H a l) : SqL K H a (vN l) := SqL.of h
/-- a phrase -/
def pF (x : Ut09.Phrase) (s t : Addr) : List (Str × V) := [("number", .int (x.number : Nat)), ("cost", .int (x.cost : Nat)), ("source", .ref s), ("target", .ref t)]
def PhrX (N : Addr → Prop) (A : Ad) (H : Hp) (a : Addr) (x : Ut09.Phrase) : Prop := ∃ dx s t, H a = some (.ins A.C_Phrase dx (pF x s t)) ∧ LstN H s x.source ∧ LstN H t x.target ∧ N s ∧ N t
abbrev PhrAt (A : Ad) (H : Hp) (a : Addr) (x : Ut09.Phrase) : Prop := PhrX (fun _ => True) A H a x
theorem PhrX.same {N : Addr → Prop} {A : Ad} {H H' : Hp} {a : Addr} {x : Ut09.Phrase} (s : Same H H') (h : PhrX N A H a x) : PhrX N A H' a x := by
  obtain ⟨dx, u, t, h1, h2, h3, n⟩ := h
  exact ⟨dx, u, t, s _ _ h1, s _ _ h2, s _ _ h3, n⟩
theorem PhrX.mono {N N' : Addr → Prop} {A : Ad} {H : Hp} {a : Addr} {x : Ut09.Phrase} (f : ∀ b, N b → N' b) (h : PhrX N A H a x) : PhrX N' A H a x := by
  obtain ⟨dx, u, t, h1, h2, h3, n1, n2⟩ := h
  exact ⟨dx, u, t, h1, h2, h3, f _ n1, f _ n2⟩
/-- the pairs -/
def enc (x : Nat × Nat × Nat) : List Key × V := ([.inl (x.1 : Nat), .inl (x.2.1 : Nat)], .int (x.2.2 : Nat))
structure PairsRel (kvs : List (List Key × V)) (prs : List (Nat × Nat × Nat)) : Prop where
  nd : (prs.map fun x => (x.1, x.2.1)).Nodup
  perm : kvs.Perm (prs.map enc)
def keyN (a b : Nat) : List Key := [.inl (a : Nat), .inl (b : Nat)]
theorem enc_key {x : Nat × Nat × Nat} {a b : Nat} : (enc x).1 = keyN a b ↔ x.1 = a ∧ x.2.1 = b := by
  unfold enc keyN
  constructor
  · intro h
    simp only [List.cons.injEq, Sum.inl.injEq, and_true] at h
    omega
  · rintro ⟨rfl, rfl⟩
    rfl
theorem valV_perm {κ : Type} [DecidableEq κ] {a b : List (κ × V)} (p : a.Perm b) (h : (b.map (·.1)).Nodup) (k : κ) : valV a k = valV b k := by
  have ha : (a.map (·.1)).Nodup := (p.map _).nodup_iff.mpr h
  cases ea : valV a k with
  | none =>
    cases eb : valV b k with
    | none => rfl
    | some v => exact (valV_not ea (((p.map (·.1)).mem_iff).mpr (valV_in eb))).elim
  | some v =>
    unfold valV at ea ⊢
    rw [Option.map_eq_some_iff] at ea
    obtain ⟨x, hx, rfl⟩ := ea
    have hm := List.mem_of_find?_eq_some hx
    have hk := List.find?_some hx
    have hk' : x.1 = k := by simpa using hk
    have hb : x ∈ b := p.mem_iff.mp hm
    have : b.find? (fun kv => decide (kv.1 = k)) = some x := by
      clear hx hm p ha
      induction b with
      | nil => cases hb
      | cons y b ih =>
        rw [List.map_cons, List.nodup_cons] at h
        rw [List.find?_cons]
        rcases List.mem_cons.mp hb with rfl | hb'
        · simp [hk']
        · have : ¬ y.1 = k := fun e => h.1 (by rw [e, ← hk']; exact List.mem_map_of_mem hb')
          simp only [this, decide_false]
          exact ih h.2 hb'
    rw [this]
    rfl
theorem enc_nodup {prs : List (Nat × Nat × Nat)} (h : (prs.map fun x => (x.1, x.2.1)).Nodup) : ((prs.map enc).map (·.1)).Nodup := by
  rw [List.map_map]
  unfold List.Nodup at h ⊢
  rw [List.pairwise_map] at h ⊢
  refine h.imp ?_
  intro x y n e
  have := enc_key (x := x) (a := y.1) (b := y.2.1)
  apply n
  obtain ⟨e1, e2⟩ := this.mp e
  rw [e1, e2]
theorem PairsRel.val {kvs : List (List Key × V)} {prs : List (Nat × Nat × Nat)} (r : PairsRel kvs prs) (a b : Nat) : valV kvs (keyN a b) = (prs.find? fun x => x.1 == a && x.2.1 == b).map fun x => V.int (x.2.2 : Nat) := by
  rw [valV_perm r.perm (enc_nodup r.nd)]
  clear r
  induction prs with
  | nil => rfl
  | cons x prs ih =>
    rw [List.map_cons, List.find?_cons]
    by_cases c : x.1 = a ∧ x.2.1 = b
    · rw [valV_pos (enc_key.mpr c)]
      have e : (x.1 == a && x.2.1 == b) = true := by simp [c.1, c.2]
      rw [e]
      rfl
    · rw [valV_neg (fun e => c (enc_key.mp e))]
      have e : (x.1 == a && x.2.1 == b) = false := by
        cases h : (x.1 == a && x.2.1 == b) with
        | false => rfl
        | true => exact (c (by simpa using h)).elim
      rw [e]
      exact ih
theorem PairsRel.len {kvs : List (List Key × V)} {prs : List (Nat × Nat × Nat)} (r : PairsRel kvs prs) : kvs.length = prs.length := by
  rw [r.perm.length_eq, List.length_map]
theorem PairsRel.cost {kvs : List (List Key × V)} {p : Ut09.Prices} (r : PairsRel kvs p.pairs) (a b : Nat) : (valV kvs (keyN a b)).getD (.int (p.other : Nat)) = .int ((Ut09.pairCost p a b : Nat) : Int) := by
  rw [r.val]
  unfold Ut09.pairCost
  cases p.pairs.find? fun x => x.1 == a && x.2.1 == b <;> rfl
theorem PairsRel.drop {kvs : List (List Key × V)} {prs : List (Nat × Nat × Nat)} (r : PairsRel kvs prs) (a b : Nat) : PairsRel (dropK kvs (keyN a b)) (prs.filter fun x => !(x.1 == a && x.2.1 == b)) := by
  constructor
  · exact r.nd.sublist (List.filter_sublist.map _)
  · refine (r.perm.filter _).trans ?_
    rw [List.filter_map]
    refine List.Perm.of_eq (congrArg (List.map enc) ?_)
    apply List.filter_congr
    intro x _
    show decide ((enc x).1 ≠ keyN a b) = _
    by_cases c : x.1 = a ∧ x.2.1 = b
    · rw [decide_eq_false (fun h => h (enc_key.mpr c))]
      simp [c.1, c.2]
    · rw [decide_eq_true (show (enc x).1 ≠ keyN a b from fun h => c (enc_key.mp h))]
      cases h : (x.1 == a && x.2.1 == b) with
      | false => rfl
      | true => exact (c (by simpa using h)).elim
theorem put_perm {κ : Type} [DecidableEq κ] {k : κ} {v : V} : ∀ {kvs : List (κ × V)}, (kvs.map (·.1)).Nodup → (putK kvs k v).Perm (dropK kvs k ++ [(k, v)]) := by
  intro kvs h
  cases e : valV kvs k with
  | none =>
    rw [putK_new v e, dropK_no (valV_not e)]
  | some u =>
    have hany : (kvs.any fun kv => decide (kv.1 = k)) = true := by rw [valV_any, e]; rfl
    unfold putK
    rw [if_pos hany]
    clear hany
    induction kvs with
    | nil => cases e
    | cons p r ih =>
      rw [List.map_cons, List.nodup_cons] at h
      rw [List.map_cons]
      by_cases c : p.1 = k
      · rw [dropK_pos c, if_pos c, dropK_no (by rw [← c]; exact h.1)]
        have : (r.map fun kv => if kv.1 = k then (kv.1, v) else kv) = r := by
          conv => rhs; rw [← List.map_id r]
          apply List.map_congr_left
          intro x hx
          rw [if_neg (fun e => h.1 (by rw [c, ← e]; exact List.mem_map_of_mem hx))]
          rfl
        rw [this, c]
        exact (List.perm_append_singleton _ _).symm
      · rw [dropK_neg c, if_neg c]
        rw [valV_neg c] at e
        exact (ih h.2 e).cons p
theorem PairsRel.put {kvs : List (List Key × V)} {prs : List (Nat × Nat × Nat)} (r : PairsRel kvs prs) (a b c : Nat) : PairsRel (putK kvs (keyN a b) (.int (c : Nat))) ((prs.filter fun x => !(x.1 == a && x.2.1 == b)) ++ [(a, b, c)]) := by
  have d := r.drop a b
  constructor
  · rw [List.map_append, List.nodup_append]
    refine ⟨d.nd, by simp, ?_⟩
    intro x hx y hy
    rw [List.mem_map] at hx
    obtain ⟨z, hz, rfl⟩ := hx
    have : y = (a, b) := by simpa using hy
    subst this
    intro e
    have := (List.mem_filter.mp hz).2
    simp only [Prod.mk.injEq] at e
    simp [e.1, e.2] at this
  · refine (put_perm ?_).trans ?_
    · exact (r.perm.map _).nodup_iff.mpr (enc_nodup r.nd)
    · rw [List.map_append]
      exact d.perm.append_right _
/-- the machine -/
def mF (pl pd : Addr) (n o j w : Nat) : List (Str × V) := [("phrases", .ref pl), ("fresh_number", .int (n : Nat)), ("pair_costs", .ref pd), ("other", .int (o : Nat)), ("jump", .int (j : Nat)), ("wide", .int (w : Nat))]
/-- a list of phrases, each with where it lies -/
def PhrL (N : Addr → Prop) (A : Ad) (H : Hp) (pl : Addr) (l : List Ut09.Phrase) : Prop := ∃ zs : List (Addr × Ut09.Phrase), H pl = some (.lst (zs.map fun z => V.ref z.1)) ∧ zs.map (·.2) = l ∧ ∀ z ∈ zs, PhrX N A H z.1 z.2
theorem PhrL.same {N : Addr → Prop} {A : Ad} {H H' : Hp} {pl : Addr} {l : List Ut09.Phrase} (s : Same H H') (h : PhrL N A H pl l) : PhrL N A H' pl l := by
  obtain ⟨zs, h1, h2, h3⟩ := h
  exact ⟨zs, s _ _ h1, h2, fun z hz => (h3 z hz).same s⟩
/-- the machine; where its phrases' lists lie N holds -/
structure MachX (N : Addr → Prop) (A : Ad) (H : Hp) (a pl pd : Addr) (g : Ut09.House) : Prop where
  ins : ∃ dx, H a = some (.ins A.C_Machine dx (mF pl pd g.given g.prices.other g.prices.jump g.prices.wide))
  phs : PhrL N A H pl g.phrases
  prs : ∃ kvs, H pd = some (.dT kvs) ∧ PairsRel kvs g.prices.pairs
abbrev MachAt (A : Ad) (H : Hp) (a pl pd : Addr) (g : Ut09.House) : Prop := MachX (fun _ => True) A H a pl pd g
theorem MachX.same {N : Addr → Prop} {A : Ad} {H H' : Hp} {a pl pd : Addr} {g : Ut09.House} (s : Same H H') (h : MachX N A H a pl pd g) : MachX N A H' a pl pd g := by
  obtain ⟨⟨dx, h1⟩, h2, ⟨kvs, h3, h4⟩⟩ := h
  exact ⟨⟨dx, s _ _ h1⟩, h2.same s, ⟨kvs, s _ _ h3, h4⟩⟩
theorem MachX.any {N : Addr → Prop} {A : Ad} {H : Hp} {a pl pd : Addr} {g : Ut09.House} (h : MachX N A H a pl pd g) : MachAt A H a pl pd g := by
  obtain ⟨h1, ⟨zs, z1, z2, z3⟩, h3⟩ := h
  exact ⟨h1, ⟨zs, z1, z2, fun z hz => (z3 z hz).mono fun _ _ => trivial⟩, h3⟩
end Pw
set_option Elab.async false
set_option maxRecDepth 100000
set_option maxHeartbeats 4000000
namespace Pw
open PySem L2
def wordsOk (l : List Nat) : Bool := l.all fun w => decide (1 ≤ w) && decide (w ≤ 99)
section
variable {P : Program} {w : World} {K : PySem.W.Frag} {mg : Str → Option Value} {base : Heap} {A : Ad}
def sp_are_words (K : PySem.W.Frag) : Sp := fun vs H Q _ => ∃ (a : Addr) (l : List Nat), vs = [.ref a] ∧ SqL K H a (vN l) ∧ l.length ≤ 1000 ∧ ∀ H', Same H H' → Q (.bl (wordsOk l)) H'
theorem ok_are_words (T : Txt K mg A) : FnOk P w K mg base CX0 1 A.f_are_words A.d_are_words ["numbers"] (sp_are_words K) := by
  refine T.F_are_words.ok sc_are_words (fun vs H Q E h => ?_) (fun cdv Ar outer s H vs Q E hr h => ?_)
  · obtain ⟨a, l, rfl, _⟩ := h
    rfl
  · obtain ⟨a, l, rfl, hs, hl, k⟩ := h
    refine ⟨_, (pss_one (ps_ret (pe_callB (cr_all rfl) (by rfl) T.b_all (by decide +kernel) (pa_cons (pe_lc (own := [("number", 1)]) (g := (gName 1)) (tt := tYes) (by rfl) sc_are_words.nd (pi_list (pv 0)) (blkOk_by (own := [("number", 1)]) (N := N_are_words) (sc := defScope s_are_words) (by decide +kernel)) (fun _ _ _ _ _ => (pg_name (i := 1) sc_are_words.nd rfl (Or.inl rfl))) (by exact fun _ _ _ _ _ => pts_nil) (by exact fun _ _ _ _ _ => (pe_chain op_le op_le pe_int (pv 1) (pe_glob (v := .int (99)) rfl T.g_HIGHEST_WORD ⟨_, rfl⟩)))) pa_nil)))), ?_⟩
    refine ⟨_, rfl, a, rfl, ⟨_, hs⟩, fun D hD => ?_⟩
    refine lc_list (K := K) (a := a) (xs := vN l) (fun i H' => Same H H' ∧ H' D = some (.lst (((l.take i).map fun n => decide (1 ≤ n) && decide (n ≤ 99)).map V.bl))) ⟨same_new hD, upd_same⟩ (fun i H' _ p => p.1.seq hs) ?_ ?_
    · rintro i x H' hi ⟨s1, hd⟩
      obtain ⟨n, hn, rfl⟩ := vN_get hi
      refine ⟨rfl, ?_⟩
      have fin : ∀ c : Bool, c = (decide (1 ≤ n) && decide (n ≤ 99)) → ∃ acc, H' D = some (.lst acc) ∧ acc.length < sizeLine ∧ (Same H (upd H' D (.lst (acc ++ [V.bl c]))) ∧ (upd H' D (.lst (acc ++ [V.bl c]))) D = some (.lst (((l.take (i + 1)).map fun n => decide (1 ≤ n) && decide (n ≤ 99)).map V.bl))) := by
        intro c hc
        refine ⟨_, hd, ?_, ?_, ?_⟩
        · rw [List.length_map, List.length_map, List.length_take]
          exact Nat.lt_of_le_of_lt (Nat.min_le_right _ _) (small1000 hl)
        · intro b o e
          rw [upd_ne (ne_of_none e hD)]
          exact s1 _ _ e
        · rw [upd_same, take_more hn, hc]
          simp
      refine ⟨_, rfl, _, _, rfl, rfl, _, rfl, ?_⟩
      by_cases c1 : 1 ≤ n
      · have e1 : decide ((1 : Int) ≤ (n : Nat)) = true := decide_eq_true (by omega)
        rw [e1]
        refine iteT ⟨_, _, rfl, rfl, ?_⟩
        exact fin _ (by rw [decide_eq_true c1, Bool.true_and]; exact decide_eq_decide.mpr (by omega))
      · have e1 : decide ((1 : Int) ≤ (n : Nat)) = false := decide_eq_false (by omega)
        rw [e1]
        exact iteF (fin _ (by rw [decide_eq_false c1, Bool.false_and]))
    · rintro H' ⟨s1, hd⟩
      rw [vN_length, List.take_length] at hd
      refine ⟨D, _, rfl, SqL.of hd, ?_⟩
      have e : ((l.map fun n => decide (1 ≤ n) && decide (n ≤ 99)).all id) = wordsOk l := by
        unfold wordsOk
        rw [List.all_map]
        rfl
      rw [e]
      exact k _ s1
theorem sentOk_words (n : Nat) (l : List Nat) : Ut09.sentOk n l = (decide (l.length ≤ n) && wordsOk l) := rfl
def sp_is_sentence (K : PySem.W.Frag) : Sp := fun vs H Q _ => ∃ (a : Addr) (l : List Nat) (n : Nat), vs = [.ref a, .int (n : Nat)] ∧ SqL K H a (vN l) ∧ l.length ≤ 1000 ∧ ∀ H', Same H H' → Q (.bl (Ut09.sentOk n l)) H'
theorem ok_is_sentence (T : Txt K mg A) : FnOk P w K mg base CX0 2 A.f_is_sentence A.d_is_sentence ["numbers", "longest"] (sp_is_sentence K) := by
  refine T.F_is_sentence.ok sc_is_sentence (fun vs H Q E h => ?_) (fun cdv Ar outer s H vs Q E hr h => ?_)
  · obtain ⟨a, l, n, rfl, _⟩ := h
    rfl
  · obtain ⟨a, l, n, rfl, hs, hl, k⟩ := h
    refine ⟨_, (pss_one (ps_ret (pe_and (pe_cmpR op_le (pe_callB call_len_seq (by rfl) T.b_len PySem.boot_len (pa_cons (pv 0) pa_nil)) (pv 1) (nomark _)) (pe_one (pe_call (ok_are_words T) (hr.mono (by decide)) (by rfl) T.g_are_words T.k_are_words T.b_are_words .nil pass0 (pa_cons (pv 0) pa_nil)))))), ?_⟩
    rw [sentOk_words] at k
    refine ⟨_, rfl, a, _, rfl, .inl hs, _, rfl, _, _, rfl, rfl, _, rfl, ?_⟩
    rw [vN_length]
    by_cases c2 : l.length ≤ n
    · have e2 : decide (((l.length : Nat) : Int) ≤ ((n : Nat) : Int)) = true := decide_eq_true (by omega)
      rw [e2]
      rw [decide_eq_true c2] at k
      exact iteT ⟨_, rfl, a, l, rfl, hs, hl, fun H' s1 => k H' s1⟩
    · have e2 : decide (((l.length : Nat) : Int) ≤ ((n : Nat) : Int)) = false := decide_eq_false (by omega)
      rw [e2]
      rw [decide_eq_false c2] at k
      exact iteF (k H (Same.refl H))
def sp_is_source (K : PySem.W.Frag) : Sp := fun vs H Q _ => ∃ (a : Addr) (l : List Nat), vs = [.ref a] ∧ SqL K H a (vN l) ∧ l.length ≤ 1000 ∧ ∀ H', Same H H' → Q (.bl (decide (0 < l.length) && Ut09.sentOk 3 l)) H'
theorem ok_is_source (T : Txt K mg A) : FnOk P w K mg base CX0 3 A.f_is_source A.d_is_source ["numbers"] (sp_is_source K) := by
  refine T.F_is_source.ok sc_is_source (fun vs H Q E h => ?_) (fun cdv Ar outer s H vs Q E hr h => ?_)
  · obtain ⟨a, l, rfl, _⟩ := h
    rfl
  · obtain ⟨a, l, rfl, hs, hl, k⟩ := h
    refine ⟨_, (pss_one (ps_ret (pe_and (pe_cmpR op_gt (pe_callB call_len_seq (by rfl) T.b_len PySem.boot_len (pa_cons (pv 0) pa_nil)) pe_int (nomark _)) (pe_one (pe_call (ok_is_sentence T) (hr.mono (by decide)) (by rfl) T.g_is_sentence T.k_is_sentence T.b_is_sentence .nil pass0 (pa_cons (pv 0) (pa_cons (pe_glob (v := .int (3)) rfl T.g_LONGEST_SOURCE ⟨_, rfl⟩) pa_nil))))))), ?_⟩
    refine ⟨_, rfl, a, _, rfl, .inl hs, _, _, rfl, rfl, _, rfl, ?_⟩
    rw [vN_length]
    by_cases c1 : 0 < l.length
    · have e1 : decide ((0 : Int) < ((l.length : Nat) : Int)) = true := decide_eq_true (by omega)
      rw [e1]
      rw [decide_eq_true c1] at k
      exact iteT ⟨_, rfl, a, l, 3, rfl, hs, hl, fun H' s1 => k H' s1⟩
    · have e1 : decide ((0 : Int) < ((l.length : Nat) : Int)) = false := decide_eq_false (by omega)
      rw [e1]
      rw [decide_eq_false c1] at k
      exact iteF (k H (Same.refl H))
/-! __init__ -/
def sp_Phrase_init (A : Ad) : Sp := fun vs H Q _ => ∃ (p dx u t : Addr) (n c : Nat), vs = [.ref p, .int (n : Nat), .int (c : Nat), .ref u, .ref t] ∧ H p = some (.ins A.C_Phrase dx []) ∧
  ∀ H' : Hp, H' p = some (.ins A.C_Phrase dx [("number", .int (n : Nat)), ("cost", .int (c : Nat)), ("source", .ref u), ("target", .ref t)]) → (∀ b o, H b = some o → b ≠ p → H' b = some o) → Q .non H'
theorem ok_Phrase_init (T : Txt K mg A) : FnOk P w K mg base CX0 1 A.f_Phrase_init A.d_Phrase_init ["self", "number", "cost", "source", "target"] (sp_Phrase_init A) := by
  refine T.F_Phrase_init.ok sc_Phrase_init (fun vs H Q E h => ?_) (fun cdv Ar outer s H vs Q E hr h => ?_)
  · obtain ⟨p, dx, u, t, n, c, rfl, _⟩ := h
    rfl
  · obtain ⟨p, dx, u, t, n, c, rfl, hp, k⟩ := h
    refine ⟨_, (pss_cons (ps_fld (pv 0) (pv 1) rfl) (pss_cons (ps_fld (pv 0) (pv 2) rfl) (pss_cons (ps_fld (pv 0) (pv 3) rfl) (pss_one (ps_fld (pv 0) (pv 4) rfl))))), ?_⟩
    refine ⟨_, rfl, _, rfl, p, _, dx, _, rfl, hp, T.cl_Phrase, T.n_Phrase_number, (by show 0 < 1000; decide), ?_⟩
    refine ⟨_, rfl, _, rfl, p, _, dx, _, rfl, upd_same, T.cl_Phrase, T.n_Phrase_cost, (by show 1 < 1000; decide), ?_⟩
    refine ⟨_, rfl, _, rfl, p, _, dx, _, rfl, upd_same, T.cl_Phrase, T.n_Phrase_source, (by show 2 < 1000; decide), ?_⟩
    refine ⟨_, rfl, _, rfl, p, _, dx, _, rfl, upd_same, T.cl_Phrase, T.n_Phrase_target, (by show 3 < 1000; decide), ?_⟩
    refine k _ upd_same fun b o e hb => ?_
    rw [upd_ne hb, upd_ne hb, upd_ne hb, upd_ne hb]
    exact e
def sp_Machine_init (A : Ad) : Sp := fun vs H Q _ => ∃ (p dx : Addr), vs = [.ref p] ∧ H p = some (.ins A.C_Machine dx []) ∧
  ∀ (H' : Hp) (pl pd : Addr), (∀ N, MachX N A H' p pl pd Ut09.init) → H pl = none → H pd = none → (∀ b o, H b = some o → b ≠ p → H' b = some o) → Q .non H'
theorem ok_Machine_init (T : Txt K mg A) : FnOk P w K mg base CX0 1 A.f_Machine_init A.d_Machine_init ["self"] (sp_Machine_init A) := by
  refine T.F_Machine_init.ok sc_Machine_init (fun vs H Q E h => ?_) (fun cdv Ar outer s H vs Q E hr h => ?_)
  · obtain ⟨p, dx, rfl, _⟩ := h
    rfl
  · obtain ⟨p, dx, rfl, hp, k⟩ := h
    refine ⟨_, (pss_cons (ps_fld (pv 0) (pe_lst pa_nil) rfl) (pss_cons (ps_fld (pv 0) pe_int rfl) (pss_cons (ps_fld (pv 0) pe_dnewT rfl) (pss_cons (ps_fld (pv 0) pe_int rfl) (pss_cons (ps_fld (pv 0) pe_int rfl) (pss_one (ps_fld (pv 0) (pe_glob (v := .int (6)) rfl T.g_WIDEST ⟨_, rfl⟩) rfl))))))), ?_⟩
    refine ⟨Nat.zero_le _, fun pl hpl => ?_⟩
    have npl : p ≠ pl := ne_of_none hp hpl
    refine ⟨_, rfl, p, _, dx, _, rfl, (upd_ne npl).trans hp, T.cl_Machine, T.n_Machine_phrases, (by show 0 < 1000; decide), ?_⟩
    refine ⟨_, rfl, p, _, dx, _, rfl, upd_same, T.cl_Machine, T.n_Machine_fresh_number, (by show 1 < 1000; decide), ?_⟩
    intro pd hpd
    have npd : p ≠ pd := fun q => by
      rw [← q, upd_same] at hpd
      cases hpd
    have npd2 : pd ≠ pl := fun q => by
      rw [q, upd_ne npl.symm, upd_ne npl.symm, upd_same] at hpd
      cases hpd
    have hpd0 : H pd = none := by
      rw [upd_ne npd.symm, upd_ne npd.symm, upd_ne npd2] at hpd
      exact hpd
    refine ⟨_, rfl, p, _, dx, _, rfl, (upd_ne npd).trans upd_same, T.cl_Machine, T.n_Machine_pair_costs, (by show 2 < 1000; decide), ?_⟩
    refine ⟨_, rfl, p, _, dx, _, rfl, upd_same, T.cl_Machine, T.n_Machine_other, (by show 3 < 1000; decide), ?_⟩
    refine ⟨_, rfl, p, _, dx, _, rfl, upd_same, T.cl_Machine, T.n_Machine_jump, (by show 4 < 1000; decide), ?_⟩
    refine ⟨_, rfl, p, _, dx, _, rfl, upd_same, T.cl_Machine, T.n_Machine_wide, (by show 5 < 1000; decide), ?_⟩
    refine k _ pl pd (fun N => ⟨⟨dx, upd_same⟩, ⟨[], ?_, rfl, fun z hz => by cases hz⟩, ⟨[], ?_, ⟨List.nodup_nil, List.Perm.nil⟩⟩⟩) hpl hpd0 fun b o e hb => ?_
    · rw [upd_ne npl.symm, upd_ne npl.symm, upd_ne npl.symm, upd_ne npl.symm, upd_ne npd2.symm, upd_ne npl.symm, upd_ne npl.symm, upd_same]
      rfl
    · rw [upd_ne npd.symm, upd_ne npd.symm, upd_ne npd.symm, upd_ne npd.symm, upd_same]
    · rw [upd_ne hb, upd_ne hb, upd_ne hb, upd_ne hb, upd_ne (ne_of_none e hpd0), upd_ne hb, upd_ne hb, upd_ne (ne_of_none e hpl)]
      exact e
end
end Pw
set_option Elab.async false
set_option maxRecDepth 100000
set_option maxHeartbeats 4000000
namespace Pw
open PySem L2
/-- what a call of the machine that answers one number owes: the specification's answer and state -/
def Owes (N : Addr → Prop) (A : Ad) (a pl pd : Addr) (g : Ut09.House) (H : Hp) (Q : VK) (c : Ut09.Call) : Prop := ∀ (H' : Hp) (z : Int) (pl' : Addr), (Ut09.step g c).2 = [z] → MachX N A H' a pl' pd (Ut09.step g c).1 → (pl' = pl ∨ H pl' = none) → SameBut [a, pl, pd] H H' → Q (.int z) H'
section
variable {P : Program} {w : World} {K : PySem.W.Frag} {mg : Str → Option Value} {base : Heap} {A : Ad}
def sp_Machine_cost_behind (A : Ad) : Sp := fun vs H Q _ => ∃ (a pl pd : Addr) (g : Ut09.House) (x y : Nat), vs = [.ref a, .int (x : Nat), .int (y : Nat)] ∧ MachAt A H a pl pd g ∧ ∀ H', Same H H' → Q (.int ((Ut09.pairCost g.prices x y : Nat) : Int)) H'
theorem ok_Machine_cost_behind (T : Txt K mg A) : FnOk P w K mg base CX0 1 A.f_Machine_cost_behind A.d_Machine_cost_behind ["self", "first", "second"] (sp_Machine_cost_behind A) := by
  refine T.F_Machine_cost_behind.ok sc_Machine_cost_behind (fun vs H Q E h => ?_) (fun cdv Ar outer s H vs Q E hr h => ?_)
  · obtain ⟨a, pl, pd, g, x, y, rfl, _⟩ := h
    rfl
  · obtain ⟨a, pl, pd, g, x, y, rfl, ⟨⟨dx, h1⟩, h2, ⟨kvs, h3, h4⟩⟩, k⟩ := h
    refine ⟨_, (pss_one (ps_ret (pe_dget2 (hu_of hr) (pe_fld (pv 0) rfl) (pe_tup (pa_cons (pv 1) (pa_cons (pv 2) pa_nil))) (pe_fld (pv 0) rfl) ⟨rfl, rfl, rfl, rfl⟩))), ?_⟩
    refine ⟨_, rfl, a, _, dx, _, _, rfl, h1, T.cl_Machine, T.n_Machine_pair_costs, rfl, pd, rfl, .inr ⟨kvs, .inl h3⟩, _, rfl, _, rfl, (by show 2 ≤ sizeLine; decide), fun t ht => ?_⟩
    have s1 := same_new (o := .tup [V.int (x : Nat), V.int (y : Nat)]) ht
    refine ⟨_, rfl, a, _, dx, _, _, rfl, s1 _ _ h1, T.cl_Machine, T.n_Machine_other, rfl, _, DGet.t (k := keyN x y) (s1 _ _ h3) upd_same, ?_⟩
    rw [h4.cost x y]
    exact k _ s1
def sp_Machine_set_prices (A : Ad) : Sp := fun vs H Q _ => ∃ (N : Addr → Prop) (a pl pd : Addr) (g : Ut09.House) (o j w : Nat), vs = [.ref a, .int (o : Nat), .int (j : Nat), .int (w : Nat)] ∧ MachX N A H a pl pd g ∧ Owes N A a pl pd g H Q (.prices o j w)
theorem mF_ne_pF {C C' dx dy pl pd s t : Addr} {n o j w : Nat} {x : Ut09.Phrase} : HO.ins C dx (mF pl pd n o j w) ≠ HO.ins C' dy (pF x s t) := by
  intro q
  injection q with _ _ q
  have := congrArg List.length q
  cases this
theorem PhrL.updM {N : Addr → Prop} {A : Ad} {H : Hp} {pl a : Addr} {l : List Ut09.Phrase} {C dx pl' pd : Addr} {n o j w : Nat} {ob : HO} (h : PhrL N A H pl l) (ha : H a = some (.ins C dx (mF pl' pd n o j w))) : PhrL N A (upd H a ob) pl l := by
  obtain ⟨zs, h1, h2, h3⟩ := h
  refine ⟨zs, ?_, h2, fun z hz => ?_⟩
  · rw [upd_ne (ne_of h1 ha (by intro q; cases q))]
    exact h1
  · obtain ⟨dz, u, t, e1, e2, e3, n1, n2⟩ := h3 z hz
    refine ⟨dz, u, t, ?_, ?_, ?_, n1, n2⟩
    · rw [upd_ne (ne_of e1 ha fun q => mF_ne_pF q.symm)]
      exact e1
    · unfold LstN
      rw [upd_ne (ne_of e2 ha (by intro q; cases q))]
      exact e2
    · unfold LstN
      rw [upd_ne (ne_of e3 ha (by intro q; cases q))]
      exact e3
theorem ok_Machine_set_prices (T : Txt K mg A) : FnOk P w K mg base CX0 1 A.f_Machine_set_prices A.d_Machine_set_prices ["self", "other", "jump", "wide"] (sp_Machine_set_prices A) := by
  refine T.F_Machine_set_prices.ok sc_Machine_set_prices (fun vs H Q E h => ?_) (fun cdv Ar outer s H vs Q E hr h => ?_)
  · obtain ⟨N, a, pl, pd, g, x, y, z, rfl, _⟩ := h
    rfl
  · obtain ⟨N, a, pl, pd, g, o, j, wd, rfl, M, k⟩ := h
    obtain ⟨⟨dx, h1⟩, h2, ⟨kvs, h3, h4⟩⟩ := id M
    refine ⟨_, (pss_cons (ps_if (PW.pt (pw_or (pt_cmpR op_gt (pv 1) (pe_glob (v := .int (999)) rfl T.g_HIGHEST_COST ⟨_, rfl⟩) (nomark _)) (pw_or (pt_cmpR op_gt (pv 2) (pe_glob (v := .int (999)) rfl T.g_HIGHEST_COST ⟨_, rfl⟩) (nomark _)) (pw_or1 (pt_cmpR op_gt (pv 3) (pe_glob (v := .int (6)) rfl T.g_WIDEST ⟨_, rfl⟩) (nomark _)))))) (pss_one (ps_ret (pe_glob (v := .int (-1)) rfl T.g_WRONG ⟨_, rfl⟩))) pss_nil) (pss_cons (ps_fld (pv 0) (pv 1) rfl) (pss_cons (ps_fld (pv 0) (pv 2) rfl) (pss_cons (ps_fld (pv 0) (pv 3) rfl) (pss_one (ps_ret pe_int)))))), ?_⟩
    have bad : (999 < o ∨ 999 < j ∨ 6 < wd) → Q (.int (-1)) H := fun c => k H (-1) pl (by simp only [Ut09.step, if_pos c]) (by simp only [Ut09.step, if_pos c]; exact M) (.inl rfl) (Same.but (Same.refl H) _)
    refine ⟨_, rfl, _, _, rfl, rfl, _, rfl, ?_⟩
    refine ite2 (fun c => bad (.inl (by have := of_decide_eq_true c; omega))) (fun c1 => ⟨_, rfl, _, _, rfl, rfl, _, rfl, ?_⟩)
    refine ite2 (fun c => bad (.inr (.inl (by have := of_decide_eq_true c; omega)))) (fun c2 => ⟨_, rfl, _, _, rfl, rfl, _, rfl, ?_⟩)
    refine ite2 (fun c => bad (.inr (.inr (by have := of_decide_eq_true c; omega)))) (fun c3 => ?_)
    have c0 : ¬ (999 < o ∨ 999 < j ∨ 6 < wd) := by
      simp only [decide_eq_true_eq] at c1 c2 c3
      omega
    refine ⟨_, rfl, _, rfl, a, _, dx, _, rfl, h1, T.cl_Machine, T.n_Machine_other, (by show 6 < 1000; decide), ?_⟩
    refine ⟨_, rfl, _, rfl, a, _, dx, _, rfl, upd_same, T.cl_Machine, T.n_Machine_jump, (by show 6 < 1000; decide), ?_⟩
    refine ⟨_, rfl, _, rfl, a, _, dx, _, rfl, upd_same, T.cl_Machine, T.n_Machine_wide, (by show 6 < 1000; decide), ?_⟩
    have e3 : ∀ o1 o2 o3 : HO, upd (upd (upd H a o1) a o2) a o3 pd = some (.dT kvs) := fun o1 o2 o3 => by
      have n : pd ≠ a := ne_of h3 h1 (by intro q; cases q)
      rw [upd_ne n, upd_ne n, upd_ne n]
      exact h3
    refine k _ 0 pl ?_ ?_ (.inl rfl) ⟨fun b ob e hb => ?_, fun b h => upd_none (upd_none (upd_none h))⟩
    · simp only [Ut09.step, if_neg c0]
    · simp only [Ut09.step, if_neg c0]
      exact ⟨⟨dx, upd_same⟩, PhrL.updM (PhrL.updM (PhrL.updM h2 h1) (n := g.given) (o := o) (j := g.prices.jump) (w := g.prices.wide) (pl' := pl) (pd := pd) upd_same) (n := g.given) (o := o) (j := j) (w := g.prices.wide) (pl' := pl) (pd := pd) upd_same, ⟨kvs, e3 _ _ _, h4⟩⟩
    · have n : b ≠ a := fun q => hb (by rw [q]; exact List.mem_cons_self)
      rw [upd_ne n, upd_ne n, upd_ne n]
      exact e
def sp_Machine_tell_pair (A : Ad) : Sp := fun vs H Q _ => ∃ (N : Addr → Prop) (a pl pd : Addr) (g : Ut09.House) (x y c : Nat), vs = [.ref a, .int (x : Nat), .int (y : Nat), .int (c : Nat)] ∧ MachX N A H a pl pd g ∧ GoodG g ∧ Owes N A a pl pd g H Q (.pair x y c)
theorem PhrL.updD {N : Addr → Prop} {A : Ad} {H : Hp} {pl d : Addr} {l : List Ut09.Phrase} {kvs : List (List Key × V)} {ob : HO} (h : PhrL N A H pl l) (hd : H d = some (.dT kvs)) : PhrL N A (upd H d ob) pl l := by
  obtain ⟨zs, h1, h2, h3⟩ := h
  refine ⟨zs, ?_, h2, fun z hz => ?_⟩
  · rw [upd_ne (ne_of h1 hd (by intro q; cases q))]
    exact h1
  · obtain ⟨dz, u, t, e1, e2, e3, n1, n2⟩ := h3 z hz
    refine ⟨dz, u, t, ?_, ?_, ?_, n1, n2⟩
    · rw [upd_ne (ne_of e1 hd (by intro q; cases q))]
      exact e1
    · unfold LstN
      rw [upd_ne (ne_of e2 hd (by intro q; cases q))]
      exact e2
    · unfold LstN
      rw [upd_ne (ne_of e3 hd (by intro q; cases q))]
      exact e3
theorem vint_eq {a b : Nat} : V.int ((a : Nat) : Int) = V.int ((b : Nat) : Int) ↔ a = b := by
  constructor
  · intro h
    injection h with h
    omega
  · rintro rfl
    rfl
theorem ok_Machine_tell_pair (T : Txt K mg A) : FnOk P w K mg base CX0 1 A.f_Machine_tell_pair A.d_Machine_tell_pair ["self", "first", "second", "cost"] (sp_Machine_tell_pair A) := by
  refine T.F_Machine_tell_pair.ok sc_Machine_tell_pair (fun vs H Q E h => ?_) (fun cdv Ar outer s H vs Q E hr h => ?_)
  · obtain ⟨N, a, pl, pd, g, x, y, z, rfl, _⟩ := h
    rfl
  · obtain ⟨N, a, pl, pd, g, x, y, c, rfl, M, G, k⟩ := h
    obtain ⟨⟨dx, h1⟩, h2, ⟨kvs, h3, h4⟩⟩ := id M
    refine ⟨_, (pss_cons (ps_if (PW.pt (pw_or (pt_cmpR op_gt (pv 1) (pe_glob (v := .int (99)) rfl T.g_HIGHEST_WORD ⟨_, rfl⟩) (nomark _)) (pw_or (pt_cmpR op_gt (pv 2) (pe_glob (v := .int (99)) rfl T.g_HIGHEST_WORD ⟨_, rfl⟩) (nomark _)) (pw_or1 (pt_cmpR op_gt (pv 3) (pe_glob (v := .int (1000)) rfl T.g_NO_MORE ⟨_, rfl⟩) (nomark _)))))) (pss_one (ps_ret (pe_glob (v := .int (-1)) rfl T.g_WRONG ⟨_, rfl⟩))) pss_nil) (pss_cons (ps_set (i := 4) sc_Machine_tell_pair.nd rfl (Or.inl rfl) (pe_tup (pa_cons (pv 1) (pa_cons (pv 2) pa_nil)))) (pss_cons (ps_if (pt_cmpR op_eq (pv 3) (pe_glob (v := .int (1000)) rfl T.g_NO_MORE ⟨_, rfl⟩) (nomark _)) (pss_cons (ps_expr (pe_bm PySem.F.plainAttrs_dict PySem.F.slot_dict_pop PySem.F.type_dict_pop (L2.DX.mt_popT (hu_of hr)) (pe_fld (pv 0) rfl) (pa_cons (pv 4) (pa_cons pe_non pa_nil)))) (pss_one (ps_ret (pe_callB call_len_dT (by rfl) T.b_len PySem.boot_len (pa_cons (pe_fld (pv 0) rfl) pa_nil))))) pss_nil) (pss_cons (ps_if (PW.pt (pw_and (pt_cmp (pc_dnotin (hu_of hr) (pv 4) (pe_fld (pv 0) rfl))) (pw_and1 (pt_cmpR op_ge (pe_callB call_len_dT (by rfl) T.b_len PySem.boot_len (pa_cons (pe_fld (pv 0) rfl) pa_nil)) (pe_glob (v := .int (20)) rfl T.g_MOST_PAIRS ⟨_, rfl⟩) (nomark _))))) (pss_one (ps_ret (pe_glob (v := .int (-5)) rfl T.g_FULL ⟨_, rfl⟩))) pss_nil) (pss_cons (ps_dput (hu_of hr) (pe_fld (pv 0) rfl) (pv 4) (pv 3) rfl) (pss_one (ps_ret (pe_callB call_len_dT (by rfl) T.b_len PySem.boot_len (pa_cons (pe_fld (pv 0) rfl) pa_nil))))))))), ?_⟩
    have bad : (99 < x ∨ 99 < y ∨ 1000 < c) → Q (.int (-1)) H := fun c => k H (-1) pl (by simp only [Ut09.step, if_pos c]) (by simp only [Ut09.step, if_pos c]; exact M) (.inl rfl) (Same.but (Same.refl H) _)
    refine ⟨_, rfl, _, _, rfl, rfl, _, rfl, ?_⟩
    refine ite2 (fun c => bad (.inl (by have := of_decide_eq_true c; omega))) (fun c1 => ⟨_, rfl, _, _, rfl, rfl, _, rfl, ?_⟩)
    refine ite2 (fun c => bad (.inr (.inl (by have := of_decide_eq_true c; omega)))) (fun c2 => ⟨_, rfl, _, _, rfl, rfl, _, rfl, ?_⟩)
    refine ite2 (fun c => bad (.inr (.inr (by have := of_decide_eq_true c; omega)))) (fun c3 => ?_)
    have c0 : ¬ (99 < x ∨ 99 < y ∨ 1000 < c) := by
      simp only [decide_eq_true_eq] at c1 c2 c3
      omega
    have sp : Ut09.step g (.pair x y c) = (if c = 1000 then ({ g with prices := { g.prices with pairs := g.prices.pairs.filter fun x_1 => !(x_1.1 == x && x_1.2.1 == y) } }, Ut09.ints [(g.prices.pairs.filter fun x_1 => !(x_1.1 == x && x_1.2.1 == y)).length]) else if 20 ≤ (g.prices.pairs.filter fun x_1 => !(x_1.1 == x && x_1.2.1 == y)).length then (g, [-5]) else ({ g with prices := { g.prices with pairs := (g.prices.pairs.filter fun x_1 => !(x_1.1 == x && x_1.2.1 == y)) ++ [(x, y, c)] } }, Ut09.ints [(g.prices.pairs.filter fun x_1 => !(x_1.1 == x && x_1.2.1 == y)).length + 1])) := by
      simp only [Ut09.step, if_neg c0]
    unfold Owes at k
    rw [sp] at k
    have dr := h4.drop x y
    have pt := h4.put x y c
    -- key = (first, second)
    refine ⟨_, rfl, _, rfl, (by show 2 ≤ sizeLine; decide), fun t ht => ?_⟩
    have s1 := same_new (o := .tup [V.int (x : Nat), V.int (y : Nat)]) ht
    have hk : (upd H t (.tup [V.int (x : Nat), V.int (y : Nat)])) t = some (.tup ((keyN x y).map kV)) := upd_same
    have M1 := M.same s1
    generalize upd H t (.tup [V.int (x : Nat), V.int (y : Nat)]) = H1 at s1 hk M1
    have g1 := s1 _ _ h1
    have g3 := s1 _ _ h3
    have hda : a ≠ pd := ne_of h1 h3 (by intro q; cases q)
    -- what stands behind a store to the dict
    have st : ∀ (kvs' : List (List Key × V)) (prs' : List (Nat × Nat × Nat)), PairsRel kvs' prs' → MachX N A (upd H1 pd (.dT kvs')) a pl pd { g with prices := { g.prices with pairs := prs' } } ∧ SameBut [a, pl, pd] H (upd H1 pd (.dT kvs')) := by
      intro kvs' prs' r
      refine ⟨⟨⟨dx, (upd_ne hda).trans g1⟩, (h2.same s1).updD g3, ⟨kvs', upd_same, r⟩⟩, fun b ob e hb => ?_, fun b h => s1.free (upd_none h)⟩
      have n : b ≠ pd := fun q => hb (by rw [q]; simp)
      rw [upd_ne n]
      exact s1 _ _ e
    refine ⟨_, rfl, rfl, _, rfl, ?_⟩
    refine ite2 (fun ce => ?_) (fun ce => ?_)
    · have hc : c = 1000 := vint_eq.mp (of_decide_eq_true ce)
      rw [if_pos hc] at k
      refine ⟨_, rfl, a, _, dx, _, _, rfl, g1, T.cl_Machine, T.n_Machine_pair_costs, rfl, .inr (.inr (.inl ⟨rfl, .inr ⟨kvs, g3⟩⟩)), _, rfl, pd, kvs, keyN x y, t, _, rfl, rfl, g3, hk, fun v hv => ?_, fun hv => ?_⟩
      · obtain ⟨m1, m2⟩ := st _ _ dr
        refine ⟨_, rfl, a, _, dx, _, _, rfl, (upd_ne hda).trans g1, T.cl_Machine, T.n_Machine_pair_costs, rfl, pd, _, rfl, upd_same, ?_⟩
        refine k _ _ pl ?_ m1 (.inl rfl) m2
        rw [dr.len]
        rfl
      · refine ⟨_, rfl, a, _, dx, _, _, rfl, g1, T.cl_Machine, T.n_Machine_pair_costs, rfl, pd, _, rfl, g3, ?_⟩
        have e : dropK kvs (keyN x y) = kvs := dropK_no (valV_not hv)
        rw [e] at dr
        refine k _ _ pl ?_ ⟨⟨dx, g1⟩, h2.same s1, ⟨kvs, g3, dr⟩⟩ (.inl rfl) (Same.but s1 _)
        rw [dr.len]
        rfl
    · have hc : ¬ c = 1000 := fun e => ce (decide_eq_true (vint_eq.mpr e))
      rw [if_neg hc] at k
      -- if key not in self.pair_costs and len(self.pair_costs) >= MOST_PAIRS
      have lenf : 20 ≤ (g.prices.pairs.filter fun x_1 => !(x_1.1 == x && x_1.2.1 == y)).length ↔ (valV kvs (keyN x y) = none ∧ 20 ≤ kvs.length) := by
        rw [← dr.len]
        constructor
        · intro h
          have l1 := dropK_le kvs (keyN x y)
          have l2 := G.prs
          rw [← h4.len] at l2
          refine ⟨?_, by omega⟩
          cases e : valV kvs (keyN x y) with
          | none => rfl
          | some v =>
            have hm := valV_in e
            have hlt : (dropK kvs (keyN x y)).length < kvs.length := by
              obtain ⟨p, hp, ep⟩ := List.mem_map.mp hm
              rw [show dropK kvs (keyN x y) = kvs.filter fun kv => decide (kv.1 ≠ keyN x y) from rfl]
              exact List.length_filter_lt_length_iff_exists.mpr ⟨p, hp, by simp [ep]⟩
            omega
        · rintro ⟨h, h'⟩
          rw [dropK_no (valV_not h)]
          exact h'
      have full : (valV kvs (keyN x y) = none ∧ 20 ≤ kvs.length) → Q (.int (-5)) H1 := fun c => by
        rw [if_pos (lenf.mpr c)] at k
        exact k H1 (-5) pl rfl M1 (.inl rfl) (Same.but s1 _)
      have put : ¬ (valV kvs (keyN x y) = none ∧ 20 ≤ kvs.length) → sDPut (tFld K (tVar 0) "pair_costs") (tVar 4) (tVar 3) { nx := fun σ' H' => tRet (tCB rLenT (tCons (tFld K (tVar 0) "pair_costs") tNil)) { nx := fun _ H' => Q .non H', rt := Q } σ' H', rt := Q } [some (.ref a), some (.int (x : Nat)), some (.int (y : Nat)), some (.int (c : Nat)), some (.ref t)] H1 := fun c => by
        rw [if_neg (fun z => c (lenf.mp z))] at k
        obtain ⟨m1, m2⟩ := st _ _ pt
        have l2 := G.prs
        rw [← h4.len] at l2
        refine ⟨_, rfl, _, rfl, a, _, dx, _, _, rfl, g1, T.cl_Machine, T.n_Machine_pair_costs, rfl, _, rfl, pd, _, rfl, .inr ⟨kvs, keyN x y, t, g3, rfl, hk, small1000 (by omega), rfl⟩, ?_⟩
        refine ⟨_, rfl, a, _, dx, _, _, rfl, (upd_ne hda).trans g1, T.cl_Machine, T.n_Machine_pair_costs, rfl, pd, _, rfl, upd_same, ?_⟩
        refine k _ _ pl ?_ m1 (.inl rfl) m2
        rw [pt.len, List.length_append]
        rfl
      refine ⟨_, rfl, _, rfl, a, _, dx, _, _, rfl, g1, T.cl_Machine, T.n_Machine_pair_costs, rfl, pd, _, rfl, DGet.t (k := keyN x y) g3 hk, _, rfl, ?_⟩
      cases ev : valV kvs (keyN x y) with
      | some v => exact put (fun z => by rw [ev] at z; cases z.1)
      | none =>
        refine ⟨_, rfl, a, _, dx, _, _, rfl, g1, T.cl_Machine, T.n_Machine_pair_costs, rfl, pd, _, rfl, g3, _, _, rfl, rfl, _, rfl, ?_⟩
        refine ite2 (fun cf => full ⟨ev, ?_⟩) (fun cf => put fun z => cf ?_)
        · have := of_decide_eq_true cf
          omega
        · have := z.2
          exact decide_eq_true (by omega)
end
end Pw
set_option Elab.async false
set_option maxRecDepth 100000
set_option maxHeartbeats 4000000
namespace Pw
open PySem L2
section
variable {P : Program} {w : World} {K : PySem.W.Frag} {mg : Str → Option Value} {base : Heap} {A : Ad}
theorem map_get {α β : Type} {l : List α} {f : α → β} {i : Nat} {y : β} (h : (l.map f)[i]? = some y) : ∃ x, l[i]? = some x ∧ y = f x := by
  rw [List.getElem?_map] at h
  cases e : l[i]? with
  | none => rw [e] at h; cases h
  | some x => rw [e] at h; exact ⟨x, rfl, (Option.some.inj h).symm⟩
theorem mem_of_get {α : Type} {l : List α} {i : Nat} {x : α} (h : l[i]? = some x) : x ∈ l := List.mem_of_getElem? h
theorem filter_take_more {α : Type} {p : α → Bool} {l : List α} {i : Nat} {x : α} (h : l[i]? = some x) : (l.take (i + 1)).filter p = (l.take i).filter p ++ if p x = true then [x] else [] := by
  rw [take_more h, List.filter_append]
  cases e : p x <;> simp [e]
theorem gone_none {l : List Ut09.Phrase} {k : Nat} : (l.filter fun x => x.number != k).length = l.length ↔ (Ut09.phraseOf l k).isNone = true := by
  unfold Ut09.phraseOf
  rw [List.length_filter_eq_length_iff, Option.isNone_iff_eq_none, List.find?_eq_none]
  constructor
  · intro h x hx
    have := h x hx
    simpa using this
  · intro h x hx
    have := h x hx
    simpa using this
def sp_Machine_drop_phrase (A : Ad) : Sp := fun vs H Q _ => ∃ (N : Addr → Prop) (a pl pd : Addr) (g : Ut09.House) (n : Nat), vs = [.ref a, .int (n : Nat)] ∧ MachX N A H a pl pd g ∧ GoodG g ∧ Owes N A a pl pd g H Q (.gone n)
theorem ok_Machine_drop_phrase (T : Txt K mg A) : FnOk P w K mg base CX0 1 A.f_Machine_drop_phrase A.d_Machine_drop_phrase ["self", "number"] (sp_Machine_drop_phrase A) := by
  refine T.F_Machine_drop_phrase.ok sc_Machine_drop_phrase (fun vs H Q E h => ?_) (fun cdv Ar outer s H vs Q E hr h => ?_)
  · obtain ⟨N, a, pl, pd, g, n, rfl, _⟩ := h
    rfl
  · obtain ⟨N, a, pl, pd, g, n, rfl, M, G, k⟩ := h
    obtain ⟨⟨dx, h1⟩, ⟨zs, hz1, hz2, hz3⟩, ⟨kvs, h3, h4⟩⟩ := id M
    refine ⟨_, (pss_cons (ps_setLc (i := 2) (own := [("phrase", 3)]) (g := (gName 3)) (tt := tTest (tOp rNe (tFld K (tVar 3) "number") (tVar 1))) (by rfl) sc_Machine_drop_phrase.nd rfl rfl (sw_true rfl rfl rfl (by decide +kernel)) (pi_list (pe_fld (pv 0) rfl)) (blkOk_by (own := [("phrase", 3)]) (N := N_Machine_drop_phrase) (sc := defScope s_Machine_drop_phrase) (by decide +kernel)) (fun _ _ _ _ _ => (pg_name (i := 3) sc_Machine_drop_phrase.nd rfl (Or.inl rfl))) (by exact fun _ _ _ _ _ => (pts_one (pt_cmpR op_ne (pe_fld (pv 3) rfl) (pv 1) (nomark _)))) (by exact fun _ _ _ _ _ => (pv 3))) (pss_cons (ps_if (pt_cmpR op_eq (pe_callB call_len_seq (by rfl) T.b_len PySem.boot_len (pa_cons (pv 2) pa_nil)) (pe_callB call_len_seq (by rfl) T.b_len PySem.boot_len (pa_cons (pe_fld (pv 0) rfl) pa_nil)) (nomark _)) (pss_one (ps_ret (pe_glob (v := .int (-2)) rfl T.g_NO_SUCH_PHRASE ⟨_, rfl⟩))) pss_nil) (pss_cons (ps_fld (pv 0) (pv 2) rfl) (pss_one (ps_ret (pe_callB call_len_seq (by rfl) T.b_len PySem.boot_len (pa_cons (pv 2) pa_nil))))))), ?_⟩
    refine ⟨_, rfl, a, _, dx, _, _, rfl, h1, T.cl_Machine, T.n_Machine_phrases, rfl, pl, rfl, ⟨_, SqL.of hz1⟩, fun D hD => ?_⟩
    have few : zs.length ≤ 6 := by
      have := G.few
      rw [← hz2, List.length_map] at this
      exact this
    refine lc_list (K := K) (a := pl) (xs := zs.map fun z => V.ref z.1) (fun i H' => Same H H' ∧ H' D = some (.lst (((zs.take i).filter fun z => z.2.number != n).map fun z => V.ref z.1))) ⟨same_new hD, upd_same⟩ (fun i H' _ p => p.1.seq (SqL.of hz1)) ?_ ?_
    · rintro i x H' hi ⟨s1, hd⟩
      obtain ⟨z, hz, rfl⟩ := map_get hi
      obtain ⟨dz, u, t, e1, _, _, _⟩ := hz3 z (mem_of_get hz)
      refine ⟨rfl, _, rfl, z.1, _, dz, _, _, rfl, s1 _ _ e1, T.cl_Phrase, T.n_Phrase_number, rfl, _, rfl, rfl, _, rfl, ?_⟩
      rw [filter_take_more hz]
      by_cases c : z.2.number = n
      · have e : (!decide (V.int ((z.2.number : Nat) : Int) = V.int ((n : Nat) : Int))) = false := by rw [decide_eq_true (vint_eq.mpr c)]; rfl
        rw [e]
        refine iteF ⟨s1, ?_⟩
        rw [if_neg (by simp [c]), List.append_nil]
        exact hd
      · have e : (!decide (V.int ((z.2.number : Nat) : Int) = V.int ((n : Nat) : Int))) = true := by rw [decide_eq_false (fun q => c (vint_eq.mp q))]; rfl
        rw [e]
        refine iteT ⟨_, rfl, _, hd, ?_, ?_, ?_⟩
        · rw [List.length_map]
          refine small1000 (Nat.le_trans (List.length_filter_le _ _) ?_)
          rw [List.length_take]
          omega
        · intro b o e
          rw [upd_ne (ne_of_none e hD)]
          exact s1 _ _ e
        · rw [upd_same, if_pos (by simp [c]), List.map_append]
          rfl
    · rintro H' ⟨s1, hd⟩
      rw [List.length_map, List.take_length] at hd
      have M1 := M.same s1
      have g1 := s1 _ _ h1
      have l1 : ((zs.filter fun z => z.2.number != n).map fun z => V.ref z.1).length = (g.phrases.filter fun x => x.number != n).length := by
        rw [List.length_map, ← hz2, List.filter_map, List.length_map]
        rfl
      have l2 : (zs.map fun z => V.ref z.1).length = g.phrases.length := by rw [← hz2, List.length_map, List.length_map]
      refine ⟨_, rfl, D, _, rfl, .inl (SqL.of hd), _, rfl, a, _, dx, _, _, rfl, g1, T.cl_Machine, T.n_Machine_phrases, rfl, pl, _, rfl, .inl (SqL.of (s1 _ _ hz1)), rfl, _, rfl, ?_⟩
      unfold Owes at k
      rw [l1, l2]
      refine ite2 (fun c => ?_) (fun c => ?_)
      · have c' := gone_none.mp (vint_eq.mp (of_decide_eq_true c))
        have e : Ut09.step g (.gone n) = (g, [-2]) := by simp only [Ut09.step, if_pos c']
        rw [e] at k
        exact k H' (-2) pl rfl M1 (.inl rfl) (Same.but s1 _)
      · have c' : ¬ (Ut09.phraseOf g.phrases n).isNone = true := fun q => c (decide_eq_true (vint_eq.mpr (gone_none.mpr q)))
        have e : Ut09.step g (.gone n) = ({ g with phrases := g.phrases.filter fun x => x.number != n }, Ut09.ints [(g.phrases.filter fun x => x.number != n).length]) := by simp only [Ut09.step, if_neg c']
        rw [e] at k
        refine ⟨_, rfl, _, rfl, a, _, dx, _, rfl, g1, T.cl_Machine, T.n_Machine_phrases, (by show 6 < 1000; decide), ?_⟩
        have nD : D ≠ a := ne_of hd g1 (by intro q; cases q)
        refine ⟨_, rfl, D, _, rfl, .inl (SqL.of ((upd_ne nD).trans hd)), ?_⟩
        refine k _ _ D ?_ ?_ (.inr hD) ⟨fun b ob e hb => ?_, fun b h => s1.free (upd_none h)⟩
        · rw [l1]
          rfl
        · have ph : PhrL N A H' D (g.phrases.filter fun x => x.number != n) := ⟨zs.filter fun z => z.2.number != n, hd, by rw [← hz2, List.filter_map]; rfl, fun z hz => (hz3 z (List.mem_filter.mp hz).1).same s1⟩
          refine ⟨⟨dx, upd_same⟩, ph.updM g1, ⟨kvs, ?_, h4⟩⟩
          rw [upd_ne (ne_of (s1 _ _ h3) g1 (by intro q; cases q))]
          exact s1 _ _ h3
        · have n : b ≠ a := fun q => hb (by rw [q]; exact List.mem_cons_self)
          rw [upd_ne n]
          exact s1 _ _ e
def sp_Machine_add_phrase (A : Ad) : Sp := fun vs H Q _ => ∃ (N : Addr → Prop) (a pl pd u t : Addr) (g : Ut09.House) (src tgt : List Nat) (c : Nat), vs = [.ref a, .int (c : Nat), .ref u, .ref t] ∧ MachX N A H a pl pd g ∧ GoodG g ∧ LstN H u src ∧ LstN H t tgt ∧
  src.length ≤ 1000 ∧ tgt.length ≤ 1000 ∧ u ≠ pl ∧ t ≠ pl ∧ N u ∧ N t ∧ Owes N A a pl pd g H Q (.phrase src tgt c)
theorem refs_ne_ints {zs : List (Addr × Ut09.Phrase)} {z : Addr × Ut09.Phrase} (hz : z ∈ zs) {l : List Nat} : HO.lst (zs.map fun z => V.ref z.1) ≠ HO.lst (vN l) := by
  intro q
  injection q with q
  cases zs with
  | nil => cases hz
  | cons y zs =>
    cases l with
    | nil => cases q
    | cons n l =>
      injection q with q _
      cases q
theorem ok_Machine_add_phrase (T : Txt K mg A) : FnOk P w K mg base CX0 4 A.f_Machine_add_phrase A.d_Machine_add_phrase ["self", "cost", "source", "target"] (sp_Machine_add_phrase A) := by
  refine T.F_Machine_add_phrase.ok sc_Machine_add_phrase (fun vs H Q E h => ?_) (fun cdv Ar outer s H vs Q E hr h => ?_)
  · obtain ⟨N, a, pl, pd, u, t, g, src, tgt, c, rfl, _⟩ := h
    rfl
  · obtain ⟨N, a, pl, pd, u, t, g, src, tgt, c, rfl, M, G, hu, ht, lu, lt, nu, nt, Nu, Nt, k⟩ := h
    refine ⟨_, (pss_cons (ps_if (PW.pt (pw_or (pt_cmpR op_gt (pv 1) (pe_glob (v := .int (999)) rfl T.g_HIGHEST_COST ⟨_, rfl⟩) (nomark _)) (pw_or (pt_not (pt_val (pe_call (ok_is_source T) (hr.mono (by decide)) (by rfl) T.g_is_source T.k_is_source T.b_is_source .nil pass0 (pa_cons (pv 2) pa_nil)))) (pw_or1 (pt_not (pt_val (pe_call (ok_is_sentence T) (hr.mono (by decide)) (by rfl) T.g_is_sentence T.k_is_sentence T.b_is_sentence .nil pass0 (pa_cons (pv 3) (pa_cons (pe_glob (v := .int (3)) rfl T.g_LONGEST_TARGET ⟨_, rfl⟩) pa_nil))))))))) (pss_one (ps_ret (pe_glob (v := .int (-1)) rfl T.g_WRONG ⟨_, rfl⟩))) pss_nil) (pss_cons (ps_if (pt_cmpR op_ge (pe_callB call_len_seq (by rfl) T.b_len PySem.boot_len (pa_cons (pe_fld (pv 0) rfl) pa_nil)) (pe_glob (v := .int (6)) rfl T.g_MOST_PHRASES ⟨_, rfl⟩) (nomark _)) (pss_one (ps_ret (pe_glob (v := .int (-5)) rfl T.g_FULL ⟨_, rfl⟩))) pss_nil) (pss_cons (ps_set (i := 4) sc_Machine_add_phrase.nd rfl (Or.inl rfl) (pe_fld (pv 0) rfl)) (pss_cons (ps_fld (pv 0) (pe_op op_add (pv 4) pe_int) rfl) (pss_cons (ps_expr (pe_bm PySem.F.plainAttrs_list PySem.F.slot_list_append PySem.F.type_list_append mt_append (pe_fld (pv 0) rfl) (pa_cons (pe_make T.mk_Phrase (ok_Phrase_init T) (hr.mono (by decide)) (by rfl) T.g_Phrase T.b_Phrase_init .nil pass0 (pa_cons (pv 4) (pa_cons (pv 1) (pa_cons (pv 2) (pa_cons (pv 3) pa_nil))))) pa_nil))) (pss_one (ps_ret (pv 4)))))))), ?_⟩
    unfold Owes at k
    have bad : (Ut09.sentOk 3 src = false ∨ src = [] ∨ Ut09.sentOk 3 tgt = false ∨ 999 < c) → ∀ H', Same H H' → Q (.int (-1)) H' := fun b H' s1 => by
      have e : Ut09.step g (.phrase src tgt c) = (g, [-1]) := by simp only [Ut09.step, if_pos b]
      rw [e] at k
      exact k H' (-1) pl rfl (M.same s1) (.inl rfl) (Same.but s1 _)
    refine ⟨_, rfl, _, _, rfl, rfl, _, rfl, ?_⟩
    refine ite2 (fun c1 => bad (.inr (.inr (.inr (by have := of_decide_eq_true c1; omega)))) H (Same.refl H)) (fun c1 => ?_)
    refine ⟨_, rfl, u, src, rfl, LstN.sq hu, lu, fun H1 s1 => ⟨_, rfl, ?_⟩⟩
    refine ite2 (fun c2 => bad ?_ H1 s1) (fun c2 => ?_)
    · by_cases e : src = []
      · exact .inr (.inl e)
      · refine .inl ?_
        have : 0 < src.length := List.length_pos_iff.mpr e
        rw [decide_eq_true this, Bool.true_and] at c2
        simpa only [Bool.not_eq_true'] using c2
    refine ⟨_, rfl, t, tgt, 3, rfl, LstN.sq (ht.same s1), lt, fun H2 s2 => ⟨_, rfl, ?_⟩⟩
    have s12 := s1.trans s2
    refine ite2 (fun c3 => bad (.inr (.inr (.inl (by simpa only [Bool.not_eq_true'] using c3)))) H2 s12) (fun c3 => ?_)
    have c0 : ¬ (Ut09.sentOk 3 src = false ∨ src = [] ∨ Ut09.sentOk 3 tgt = false ∨ 999 < c) := by
      simp only [decide_eq_true_eq] at c1
      simp only [Bool.not_eq_true', Bool.not_eq_false, Bool.and_eq_true, decide_eq_true_eq] at c2 c3
      rintro (h | h | h | h)
      · rw [c2.2] at h
        cases h
      · rw [h] at c2
        exact absurd c2.1 (by decide)
      · rw [c3] at h
        cases h
      · omega
    obtain ⟨⟨dx, h1⟩, ⟨zs, hz1, hz2, hz3⟩, ⟨kvs, h3, h4⟩⟩ := id (M.same s12)
    have hu2 := hu.same s12
    have ht2 := ht.same s12
    have lz : zs.length = g.phrases.length := by rw [← hz2, List.length_map]
    refine ⟨_, rfl, a, _, dx, _, _, rfl, h1, T.cl_Machine, T.n_Machine_phrases, rfl, pl, _, rfl, .inl (SqL.of hz1), _, _, rfl, rfl, _, rfl, ?_⟩
    rw [List.length_map, lz]
    refine ite2 (fun c4 => ?_) (fun c4 => ?_)
    · have e : Ut09.step g (.phrase src tgt c) = (g, [-5]) := by
        have : 6 ≤ g.phrases.length := by have := of_decide_eq_true c4; omega
        simp only [Ut09.step, if_neg c0, if_pos this]
      rw [e] at k
      exact k H2 (-5) pl rfl (M.same s12) (.inl rfl) (Same.but s12 _)
    · have hlt : ¬ 6 ≤ g.phrases.length := fun q => c4 (decide_eq_true (by omega))
      have e : Ut09.step g (.phrase src tgt c) = ({ g with phrases := g.phrases ++ [⟨g.given, src, tgt, c⟩], given := g.given + 1 }, Ut09.ints [g.given]) := by simp only [Ut09.step, if_neg c0, if_neg hlt]
      rw [e] at k
      refine ⟨_, rfl, a, _, dx, _, _, rfl, h1, T.cl_Machine, T.n_Machine_fresh_number, rfl, ?_⟩
      refine ⟨_, rfl, _, _, rfl, rfl, _, rfl, a, _, dx, _, rfl, h1, T.cl_Machine, T.n_Machine_fresh_number, (by show 6 < 1000; decide), ?_⟩
      have npl : pl ≠ a := ne_of hz1 h1 (by intro q; cases q)
      have npd : pd ≠ a := ne_of h3 h1 (by intro q; cases q)
      have sb : SameBut [a] H2 (upd H2 a (.ins A.C_Machine dx (mF pl pd (g.given + 1) g.prices.other g.prices.jump g.prices.wide))) := ⟨fun b ob e hb => (upd_ne (fun q => hb (by rw [q]; simp))).trans e, fun b h => upd_none h⟩
      have h1' : (upd H2 a (.ins A.C_Machine dx (mF pl pd (g.given + 1) g.prices.other g.prices.jump g.prices.wide))) a = some (.ins A.C_Machine dx (mF pl pd (g.given + 1) g.prices.other g.prices.jump g.prices.wide)) := upd_same
      have fl : putF "fresh_number" (V.int ((g.given : Nat) + 1 : Int)) (mF pl pd g.given g.prices.other g.prices.jump g.prices.wide) = mF pl pd (g.given + 1) g.prices.other g.prices.jump g.prices.wide := rfl
      rw [fl]
      have hz3' : ∀ z ∈ zs, PhrX N A (upd H2 a (.ins A.C_Machine dx (mF pl pd (g.given + 1) g.prices.other g.prices.jump g.prices.wide))) z.1 z.2 := fun z hz => by
        obtain ⟨dz, x, y, e1, e2, e3, n12⟩ := hz3 z hz
        exact ⟨dz, x, y, (upd_ne (ne_of e1 h1 fun q => mF_ne_pF q.symm)).trans e1, (upd_ne (ne_of e2 h1 (by intro q; cases q))).trans e2, (upd_ne (ne_of e3 h1 (by intro q; cases q))).trans e3, n12⟩
      have hu3 : LstN (upd H2 a (.ins A.C_Machine dx (mF pl pd (g.given + 1) g.prices.other g.prices.jump g.prices.wide))) u src := (upd_ne (ne_of hu2 h1 (by intro q; cases q))).trans hu2
      have ht3 : LstN (upd H2 a (.ins A.C_Machine dx (mF pl pd (g.given + 1) g.prices.other g.prices.jump g.prices.wide))) t tgt := (upd_ne (ne_of ht2 h1 (by intro q; cases q))).trans ht2
      have hz1' := (upd_ne (o := .ins A.C_Machine dx (mF pl pd (g.given + 1) g.prices.other g.prices.jump g.prices.wide)) npl).trans hz1
      have h3' := (upd_ne (o := .ins A.C_Machine dx (mF pl pd (g.given + 1) g.prices.other g.prices.jump g.prices.wide)) npd).trans h3
      generalize upd H2 a (.ins A.C_Machine dx (mF pl pd (g.given + 1) g.prices.other g.prices.jump g.prices.wide)) = H3 at sb h1' hz3' hu3 ht3 hz1' h3'
      -- self.phrases.append(Phrase(number, cost, source, target))
      refine ⟨_, rfl, a, _, dx, _, _, rfl, h1', T.cl_Machine, T.n_Machine_phrases, rfl, .inl ⟨rfl, _, SqL.of hz1'⟩, _, rfl, _, rfl, _, rfl, _, rfl, ?_⟩
      intro p dp np ndp nep
      have s3 : Same H3 (upd (upd H3 dp (.own p)) p (.ins A.C_Phrase dp [])) := fun b o e => by
        rw [upd_ne (ne_of_none e np), upd_ne (ne_of_none e ndp)]
        exact e
      refine ⟨p, dp, u, t, g.given, c, rfl, upd_same, fun H4 hp4 k4 => ⟨rfl, ?_⟩⟩
      have s4 : Same H3 H4 := Same.made np ndp k4
      refine ⟨pl, _, _, rfl, rfl, s4 _ _ hz1', ?_, ?_⟩
      · rw [List.length_map]
        exact small1000 (by omega)
      have hpl : p ≠ pl := fun q => by rw [q, hz1'] at np; cases np
      have upl : ∀ b o, H4 b = some o → b ≠ pl → (upd H4 pl (.lst ((zs.map fun z => V.ref z.1) ++ [V.ref p]))) b = some o := fun b o e n => (upd_ne n).trans e
      have na : a ≠ pl := fun q => npl q.symm
      have nd' : pd ≠ pl := ne_of h3' hz1' (by intro q; cases q)
      refine ⟨_, rfl, ?_⟩
      refine k _ _ pl rfl ⟨⟨dx, upl _ _ (s4 _ _ h1') na⟩, ⟨zs ++ [(p, ⟨g.given, src, tgt, c⟩)], ?_, ?_, ?_⟩, ⟨kvs, upl _ _ (s4 _ _ h3') nd', h4⟩⟩ (.inl rfl) ?_
      · rw [upd_same, List.map_append]
        rfl
      · rw [List.map_append, hz2]
        rfl
      · intro z hz
        rcases List.mem_append.mp hz with hz | hz
        · obtain ⟨dz, x, y, e1, e2, e3, n12⟩ := (hz3' z hz).same s4
          have n1 : z.1 ≠ pl := ne_of e1 (s4 _ _ hz1') (by intro q; cases q)
          have n2 : x ≠ pl := ne_of e2 (s4 _ _ hz1') fun q => refs_ne_ints hz q.symm
          have n3 : y ≠ pl := ne_of e3 (s4 _ _ hz1') fun q => refs_ne_ints hz q.symm
          exact ⟨dz, x, y, upl _ _ e1 n1, upl _ _ e2 n2, upl _ _ e3 n3, n12⟩
        · have : z = (p, ⟨g.given, src, tgt, c⟩) := by simpa using hz
          subst this
          exact ⟨dp, u, t, upl _ _ hp4 hpl, upl _ _ (s4 _ _ hu3) nu, upl _ _ (s4 _ _ ht3) nt, Nu, Nt⟩
      · refine ⟨fun b o e hb => ?_, fun b h => s12.free (sb.keep b (s4.free (upd_none h)))⟩
        have n1 : b ≠ pl := fun q => hb (by rw [q]; simp)
        have n2 : b ∉ [a] := fun q => hb (by simp at q; rw [q]; simp)
        exact upl _ _ (s4 _ _ (sb.at_ _ _ (s12 _ _ e) n2)) n1
/-- the phrase of that number, or None -/
def PhrO (A : Ad) (H : Hp) (v : V) (o : Option Ut09.Phrase) : Prop := (v = .non ∧ o = none) ∨ ∃ a x, v = .ref a ∧ o = some x ∧ PhrAt A H a x
def sp_Machine_phrase_numbered (A : Ad) : Sp := fun vs H Q _ => ∃ (a pl pd : Addr) (g : Ut09.House) (n : Nat), vs = [.ref a, .int (n : Nat)] ∧ MachAt A H a pl pd g ∧ ∀ v, PhrO A H v (Ut09.phraseOf g.phrases n) → Q v H
theorem ok_Machine_phrase_numbered (T : Txt K mg A) : FnOk P w K mg base CX0 1 A.f_Machine_phrase_numbered A.d_Machine_phrase_numbered ["self", "number"] (sp_Machine_phrase_numbered A) := by
  refine T.F_Machine_phrase_numbered.ok sc_Machine_phrase_numbered (fun vs H Q E h => ?_) (fun cdv Ar outer s H vs Q E hr h => ?_)
  · obtain ⟨a, pl, pd, g, n, rfl, _⟩ := h
    rfl
  · obtain ⟨a, pl, pd, g, n, rfl, ⟨⟨dx, h1⟩, ⟨zs, hz1, hz2, hz3⟩, _⟩, k⟩ := h
    refine ⟨_, (pss_cons (ps_for PassesOwn.never rfl (pi_list (pe_fld (pv 0) rfl)) (pg_name (i := 2) sc_Machine_phrase_numbered.nd rfl (Or.inl rfl)) (pss_one (ps_if (pt_cmpR op_eq (pe_fld (pv 2) rfl) (pv 1) (nomark _)) (pss_one (ps_ret (pv 2))) pss_nil))) (pss_one (ps_ret pe_non))), ?_⟩
    refine ⟨_, rfl, a, _, dx, _, _, rfl, h1, T.cl_Machine, T.n_Machine_phrases, rfl, pl, rfl, ⟨_, SqL.of hz1⟩, for_list (K := K) (a := pl) (xs := zs.map fun z => V.ref z.1) (fun i σ H' => ∃ v : Option V, σ = [some (.ref a), some (.int (n : Nat)), v] ∧ H' = H ∧ ∀ x ∈ g.phrases.take i, x.number ≠ n)
      ⟨none, rfl, rfl, fun x hx => by cases hx⟩ (fun i σ H' _ ⟨_, _, e, _⟩ => by rw [e]; exact SqL.of hz1) ?_ ?_⟩
    · rintro i y σ H' hi ⟨v, rfl, rfl, no⟩
      obtain ⟨z, hz, rfl⟩ := map_get hi
      have zp := hz3 z (mem_of_get hz)
      obtain ⟨dz, u, t, e1, _, _, _⟩ := id zp
      have hx : g.phrases[i]? = some z.2 := by rw [← hz2, List.getElem?_map, hz]; rfl
      have li := (List.getElem?_eq_some_iff.mp hx).1
      refine ⟨_, rfl, z.1, _, dz, _, _, rfl, e1, T.cl_Phrase, T.n_Phrase_number, rfl, _, rfl, rfl, _, rfl, ?_⟩
      refine ite2 (fun c => ?_) (fun c => ?_)
      · have c' : z.2.number = n := vint_eq.mp (of_decide_eq_true c)
        refine ⟨_, rfl, k _ (.inr ⟨z.1, z.2, rfl, ?_, zp⟩)⟩
        unfold Ut09.phraseOf
        rw [← List.take_append_drop i g.phrases, List.find?_append, List.find?_eq_none.mpr (fun x hx => by simpa using no x hx)]
        rw [List.drop_eq_getElem_cons li, List.find?_cons]
        have e : g.phrases[i] = z.2 := by
          rw [List.getElem?_eq_getElem li] at hx
          exact Option.some.inj hx
        rw [e, c']
        simp
      · refine ⟨some (.ref z.1), rfl, rfl, ?_⟩
        rw [take_more hx]
        intro x hx'
        rcases List.mem_append.mp hx' with h | h
        · exact no x h
        · have : x = z.2 := by simpa using h
          rw [this]
          exact fun q => c (decide_eq_true (vint_eq.mpr q))
    · rintro σ H' ⟨v, rfl, rfl, no⟩
      have e : (zs.map fun z => V.ref z.1).length = g.phrases.length := by rw [← hz2, List.length_map, List.length_map]
      rw [e, List.take_length] at no
      refine k _ (.inl ⟨rfl, ?_⟩)
      unfold Ut09.phraseOf
      exact List.find?_eq_none.mpr fun x hx => by simpa using no x hx
end
end Pw
set_option Elab.async false
set_option maxRecDepth 100000
set_option maxHeartbeats 4000000
namespace Pw
open PySem L2
def rF (nl : Addr) (i : Nat) : List (Str × V) := [("numbers", .ref nl), ("place", .int (i : Nat))]
structure RdAt (K : PySem.W.Frag) (A : Ad) (H : Hp) (a nl : Addr) (ns : List Nat) (i : Nat) : Prop where
  ins : ∃ dx, H a = some (.ins A.C_Reader dx (rF nl i))
  sq : SqL K H nl (vN ns)
theorem SqL.updI {K : PySem.W.Frag} {H : Hp} {a C dx nl : Addr} {fs : List (Str × V)} {ob : HO} {xs : List V} (h : SqL K H nl xs) (ha : H a = some (.ins C dx fs)) : SqL K (upd H a ob) nl xs := by
  rcases h with (h | ⟨o, h⟩) | h
  · exact .inl (.inl ((upd_ne (ne_of h ha (by intro q; cases q))).trans h))
  · exact .inl (.inr ⟨o, (upd_ne (ne_of h ha (by intro q; cases q))).trans h⟩)
  · exact .inr h
section
variable {P : Program} {w : World} {K : PySem.W.Frag} {mg : Str → Option Value} {base : Heap} {A : Ad}
def sp_Reader_init (K : PySem.W.Frag) (A : Ad) : Sp := fun vs H Q _ => ∃ (p dx nl : Addr) (ns : List Nat), vs = [.ref p, .ref nl] ∧ H p = some (.ins A.C_Reader dx []) ∧ SqL K H nl (vN ns) ∧
  ∀ H' : Hp, RdAt K A H' p nl ns 0 → (∀ b o, H b = some o → b ≠ p → H' b = some o) → Q .non H'
theorem ok_Reader_init (T : Txt K mg A) : FnOk P w K mg base CX0 1 A.f_Reader_init A.d_Reader_init ["self", "numbers"] (sp_Reader_init K A) := by
  refine T.F_Reader_init.ok sc_Reader_init (fun vs H Q E h => ?_) (fun cdv Ar outer s H vs Q E hr h => ?_)
  · obtain ⟨p, dx, nl, ns, rfl, _⟩ := h
    rfl
  · obtain ⟨p, dx, nl, ns, rfl, hp, hs, k⟩ := h
    refine ⟨_, (pss_cons (ps_fld (pv 0) (pv 1) rfl) (pss_one (ps_fld (pv 0) pe_int rfl))), ?_⟩
    refine ⟨_, rfl, _, rfl, p, _, dx, _, rfl, hp, T.cl_Reader, T.n_Reader_numbers, (by show 0 < 1000; decide), ?_⟩
    refine ⟨_, rfl, p, _, dx, _, rfl, upd_same, T.cl_Reader, T.n_Reader_place, (by show 1 < 1000; decide), ?_⟩
    refine k _ ⟨⟨dx, upd_same⟩, SqL.updI (SqL.updI hs hp) upd_same⟩ fun b o e hb => ?_
    rw [upd_ne hb, upd_ne hb]
    exact e
def sp_Reader_has_more (K : PySem.W.Frag) (A : Ad) : Sp := fun vs H Q _ => ∃ (p nl : Addr) (ns : List Nat) (i : Nat), vs = [.ref p] ∧ RdAt K A H p nl ns i ∧ Q (.bl (decide (i < ns.length))) H
theorem ok_Reader_has_more (T : Txt K mg A) : FnOk P w K mg base CX0 1 A.f_Reader_has_more A.d_Reader_has_more ["self"] (sp_Reader_has_more K A) := by
  refine T.F_Reader_has_more.ok sc_Reader_has_more (fun vs H Q E h => ?_) (fun cdv Ar outer s H vs Q E hr h => ?_)
  · obtain ⟨p, nl, ns, i, rfl, _⟩ := h
    rfl
  · obtain ⟨p, nl, ns, i, rfl, ⟨⟨dx, h1⟩, h2⟩, k⟩ := h
    refine ⟨_, (pss_one (ps_ret (pe_cmpR op_lt (pe_fld (pv 0) rfl) (pe_callB call_len_seq (by rfl) T.b_len PySem.boot_len (pa_cons (pe_fld (pv 0) rfl) pa_nil)) (nomark _)))), ?_⟩
    refine ⟨_, rfl, p, _, dx, _, _, rfl, h1, T.cl_Reader, T.n_Reader_place, rfl, _, rfl, p, _, dx, _, _, rfl, h1, T.cl_Reader, T.n_Reader_numbers, rfl, nl, _, rfl, .inl h2, _, _, rfl, rfl, ?_⟩
    rw [vN_length]
    show Q (V.bl (decide (((i : Nat) : Int) < ((ns.length : Nat) : Int)))) H
    have e : decide (((i : Nat) : Int) < ((ns.length : Nat) : Int)) = decide (i < ns.length) := decide_eq_decide.mpr (by omega)
    rw [e]
    exact k
def sp_Reader_take (K : PySem.W.Frag) (A : Ad) : Sp := fun vs H Q _ => ∃ (p nl : Addr) (ns : List Nat) (i n : Nat), vs = [.ref p] ∧ RdAt K A H p nl ns i ∧ ns[i]? = some n ∧
  ∀ H', RdAt K A H' p nl ns (i + 1) → SameBut [p] H H' → Q (.int (n : Nat)) H'
theorem ok_Reader_take (T : Txt K mg A) : FnOk P w K mg base CX0 1 A.f_Reader_take A.d_Reader_take ["self"] (sp_Reader_take K A) := by
  refine T.F_Reader_take.ok sc_Reader_take (fun vs H Q E h => ?_) (fun cdv Ar outer s H vs Q E hr h => ?_)
  · obtain ⟨p, nl, ns, i, n, rfl, _⟩ := h
    rfl
  · obtain ⟨p, nl, ns, i, n, rfl, ⟨⟨dx, h1⟩, h2⟩, hn, k⟩ := h
    refine ⟨_, (pss_cons (ps_set (i := 1) sc_Reader_take.nd rfl (Or.inl rfl) (pe_ix ix_list (pe_fld (pv 0) rfl) (pe_fld (pv 0) rfl) (fun _ _ => rfl))) (pss_cons (ps_fld (pv 0) (pe_op op_add (pe_fld (pv 0) rfl) pe_int) rfl) (pss_one (ps_ret (pv 1))))), ?_⟩
    have hv : (vN ns)[i]? = some (V.int (n : Nat)) := by
      unfold vN
      rw [List.getElem?_map, hn]
      rfl
    refine ⟨_, rfl, p, _, dx, _, _, rfl, h1, T.cl_Reader, T.n_Reader_numbers, rfl, _, rfl, p, _, dx, _, _, rfl, h1, T.cl_Reader, T.n_Reader_place, rfl, nl, _, _, _, rfl, rfl, h2, atI_nat hv, ?_⟩
    refine ⟨_, rfl, p, _, dx, _, _, rfl, h1, T.cl_Reader, T.n_Reader_place, rfl, _, _, rfl, rfl, _, rfl, p, _, dx, _, rfl, h1, T.cl_Reader, T.n_Reader_place, (by show 2 < 1000; decide), ?_⟩
    refine ⟨_, rfl, k _ ⟨⟨dx, upd_same⟩, SqL.updI h2 h1⟩ ⟨fun b o e hb => ?_, fun b h => upd_none h⟩⟩
    exact (upd_ne (fun q => hb (by rw [q]; simp))).trans e
def sp_Reader_take_row (K : PySem.W.Frag) (A : Ad) : Sp := fun vs H Q _ => ∃ (p nl : Addr) (ns : List Nat) (i : Nat) (row rest : List Nat), vs = [.ref p] ∧ RdAt K A H p nl ns i ∧ ns.drop i = row.length :: (row ++ rest) ∧
  ∀ (H' : Hp) (q : Addr), RdAt K A H' p nl ns (i + 1 + row.length) → SameBut [p] H H' → H q = none → LstN H' q row → Q (.ref q) H'
theorem drop_get {α : Type} {l r : List α} {i : Nat} {x : α} (h : l.drop i = x :: r) : l[i]? = some x ∧ l.drop (i + 1) = r := by
  have e : l[i]? = (l.drop i)[0]? := by rw [List.getElem?_drop]; rfl
  refine ⟨by rw [e, h]; rfl, ?_⟩
  rw [← List.drop_drop, h]
  rfl
theorem cut_row {ns row rest : List Nat} {i : Nat} (h : ns.drop i = row ++ rest) (hi : i ≤ ns.length) : cutV (vN ns) (some ((i : Nat) : Int)) (some ((i : Nat) + (row.length : Nat) : Int)) = vN row := by
  unfold cutV
  have e2 : ((i : Nat) + (row.length : Nat) : Int) = ((i + row.length : Nat) : Int) := by omega
  rw [e2, HT.sIx_nat, HT.sIx_nat, vN_length]
  have hl : (ns.drop i).length = ns.length - i := List.length_drop
  rw [h, List.length_append] at hl
  have m1 : min i ns.length = i := Nat.min_eq_left hi
  have m2 : min (i + row.length) ns.length = i + row.length := by omega
  rw [m1, m2]
  unfold vN
  rw [← List.map_drop, h, ← List.map_take]
  have : i + row.length - i = row.length := by omega
  rw [this, List.take_left]
theorem ok_Reader_take_row (T : Txt K mg A) : FnOk P w K mg base CX0 2 A.f_Reader_take_row A.d_Reader_take_row ["self"] (sp_Reader_take_row K A) := by
  refine T.F_Reader_take_row.ok sc_Reader_take_row (fun vs H Q E h => ?_) (fun cdv Ar outer s H vs Q E hr h => ?_)
  · obtain ⟨p, nl, ns, i, row, rest, rfl, _⟩ := h
    rfl
  · obtain ⟨p, nl, ns, i, row, rest, rfl, R, hd, k⟩ := h
    refine ⟨_, (pss_cons (ps_set (i := 1) sc_Reader_take_row.nd rfl (Or.inl rfl) (pe_meth0 (pv 0) T.cl_Reader T.m_Reader_take (ok_Reader_take T) (hr.mono (by decide)) T.b_Reader_take .nil pass0)) (pss_cons (ps_set (i := 2) sc_Reader_take_row.nd rfl (Or.inl rfl) (pe_fld (pv 0) rfl)) (pss_cons (ps_fld (pv 0) (pe_op op_add (pv 2) (pv 1)) rfl) (pss_one (ps_ret (pe_slice sl_list (pe_fld (pv 0) rfl) (po_some (pv 2)) (po_some (pe_fld (pv 0) rfl)))))))), ?_⟩
    obtain ⟨hn, hd1⟩ := drop_get hd
    obtain ⟨⟨dx0, h0⟩, _⟩ := id R
    refine ⟨_, rfl, p, dx0, _, rfl, h0, rfl, p, nl, ns, i, row.length, rfl, R, hn, fun H1 R1 s1 => ?_⟩
    obtain ⟨⟨dx, h1⟩, h2⟩ := R1
    have hi : i + 1 ≤ ns.length := by
      have := (List.getElem?_eq_some_iff.mp hn).1
      omega
    refine ⟨_, rfl, p, _, dx, _, _, rfl, h1, T.cl_Reader, T.n_Reader_place, rfl, ?_⟩
    refine ⟨_, rfl, _, rfl, _, _, rfl, rfl, _, rfl, p, _, dx, _, rfl, h1, T.cl_Reader, T.n_Reader_place, (by show 2 < 1000; decide), ?_⟩
    have h2' : SqL K (upd H1 p (.ins A.C_Reader dx (putF "place" (V.int (((i + 1 : Nat) : Int) + ((row.length : Nat) : Int))) (rF nl (i + 1))))) nl (vN ns) := SqL.updI h2 h1
    refine ⟨_, rfl, p, _, dx, _, _, rfl, upd_same, T.cl_Reader, T.n_Reader_numbers, rfl, ?_⟩
    refine ⟨_, rfl, _, rfl, _, rfl, p, _, dx, _, _, rfl, upd_same, T.cl_Reader, T.n_Reader_place, rfl, _, rfl, nl, _, rfl, h2', fun q hq => ?_⟩
    rw [cut_row hd1 hi]
    have nqp : q ≠ p := fun z => by
      rw [z, upd_same] at hq
      cases hq
    have hq1 : H1 q = none := by
      rw [upd_ne nqp] at hq
      exact hq
    have s2 := same_new (o := .lst (vN row)) hq
    refine k _ q ⟨⟨dx, s2 _ _ upd_same⟩, s2.seq h2'⟩ ⟨fun b o e hb => s2 _ _ ((upd_ne (fun z => hb (by rw [z]; simp))).trans (s1.at_ _ _ e hb)), fun b h => s1.keep b (upd_none (s2.free h))⟩ (s1.keep q hq1) upd_same
end
end Pw
set_option Elab.async false
set_option maxRecDepth 100000
set_option maxHeartbeats 4000000
namespace Pw
open PySem L2
section
variable {P : Program} {w : World} {K : PySem.W.Frag} {mg : Str → Option Value} {base : Heap} {A : Ad} {N : Addr → Prop}
theorem rF_ne_mF {C C' dx dy nl pl pd : Addr} {i n o j w : Nat} : HO.ins C dx (rF nl i) ≠ HO.ins C' dy (mF pl pd n o j w) := by
  intro q
  injection q with _ _ q
  have := congrArg List.length q
  cases this
theorem rF_ne_pF {C C' dx dy nl s t : Addr} {i : Nat} {x : Ut09.Phrase} : HO.ins C dx (rF nl i) ≠ HO.ins C' dy (pF x s t) := by
  intro q
  injection q with _ _ q
  have := congrArg List.length q
  cases this
theorem SameBut.trans {ps qs : List Addr} {H H1 H2 : Hp} (a : SameBut ps H H1) (b : SameBut qs H1 H2) (h : ∀ x ∈ ps, x ∈ qs) : SameBut qs H H2 := ⟨fun c o e n => b.at_ c o (a.at_ c o e fun m => n (h c m)) n, fun c e => a.keep c (b.keep c e)⟩
theorem SameBut.mono {ps qs : List Addr} {H H1 : Hp} (a : SameBut ps H H1) (h : ∀ x ∈ ps, x ∈ qs) : SameBut qs H H1 := ⟨fun c o e n => a.at_ c o e fun m => n (h c m), a.keep⟩
/-- the machine stands where the reader alone has gone on -/
theorem MachX.butR {H H' : Hp} {am pl pd ar C dr nl : Addr} {i : Nat} {g : Ut09.House} (M : MachX N A H am pl pd g) (hr : H ar = some (.ins C dr (rF nl i))) (s : SameBut [ar] H H') : MachX N A H' am pl pd g := by
  obtain ⟨⟨dx, h1⟩, ⟨zs, hz1, hz2, hz3⟩, ⟨kvs, h3, h4⟩⟩ := M
  have go : ∀ {b : Addr} {o : HO}, H b = some o → o ≠ .ins C dr (rF nl i) → H' b = some o := fun {b} {o} e n => s.at_ _ _ e (by
    intro q
    have q : b = ar := by simpa using q
    rw [q, hr] at e
    exact n (Option.some.inj e).symm)
  refine ⟨⟨dx, go h1 fun q => rF_ne_mF q.symm⟩, ⟨zs, go hz1 (by intro q; cases q), hz2, fun z hz => ?_⟩, ⟨kvs, go h3 (by intro q; cases q), h4⟩⟩
  obtain ⟨dz, u, t, e1, e2, e3, n12⟩ := hz3 z hz
  exact ⟨dz, u, t, go e1 fun q => rF_ne_pF q.symm, go e2 (by intro q; cases q), go e3 (by intro q; cases q), n12⟩
theorem MachX.sep {H : Hp} {am pl pd ar C dr nl : Addr} {i : Nat} {g : Ut09.House} (M : MachX N A H am pl pd g) (hr : H ar = some (.ins C dr (rF nl i))) : ar ∉ [am, pl, pd] := by
  obtain ⟨⟨dx, h1⟩, ⟨zs, hz1, hz2, hz3⟩, ⟨kvs, h3, h4⟩⟩ := M
  intro q
  simp only [List.mem_cons, List.not_mem_nil, or_false] at q
  rcases q with q | q | q
  · exact ne_of hr h1 rF_ne_mF q
  · exact ne_of hr hz1 (by intro q; cases q) q
  · exact ne_of hr h3 (by intro q; cases q) q
/-- the reader stands where the machine alone has changed -/
theorem RdAt.butM {H H' : Hp} {am pl pd ar nl : Addr} {ns : List Nat} {i : Nat} {g : Ut09.House} (R : RdAt K A H ar nl ns i) (M : MachX N A H am pl pd g) (hn : ns ≠ []) (s : SameBut [am, pl, pd] H H') : RdAt K A H' ar nl ns i := by
  obtain ⟨⟨dr, hr⟩, hs⟩ := R
  have sep := M.sep hr
  refine ⟨⟨dr, s.at_ _ _ hr sep⟩, ?_⟩
  obtain ⟨⟨dx, h1⟩, ⟨zs, hz1, hz2, hz3⟩, ⟨kvs, h3, h4⟩⟩ := M
  have hnl : ∀ o : HO, H nl = some o → (∀ C dx fs, o ≠ .ins C dx fs) → (∀ zs : List (Addr × Ut09.Phrase), o ≠ .lst (zs.map fun z => V.ref z.1)) → (∀ kvs, o ≠ .dT kvs) → H' nl = some o := fun o e n1 n2 n3 => s.at_ _ _ e (by
    intro q
    simp only [List.mem_cons, List.not_mem_nil, or_false] at q
    rcases q with q | q | q
    · rw [q, h1] at e
      exact n1 _ _ _ (Option.some.inj e).symm
    · rw [q, hz1] at e
      exact n2 _ (Option.some.inj e).symm
    · rw [q, h3] at e
      exact n3 _ (Option.some.inj e).symm)
  rcases hs with (h | ⟨o, h⟩) | h
  · refine .inl (.inl (hnl _ h (by intro _ _ _ q; cases q) (fun zs q => ?_) (by intro _ q; cases q)))
    injection q with q
    cases ns with
    | nil => exact hn rfl
    | cons n ns =>
      cases zs with
      | nil => cases q
      | cons z zs =>
        injection q with q _
        cases q
  · exact .inl (.inr ⟨o, hnl _ h (by intro _ _ _ q; cases q) (by intro _ q; cases q) (by intro _ q; cases q)⟩)
  · exact .inr h
/-- what a call is owed: a new list of the specification's answer, the machine and the reader where they should be -/
def OwesL (N : Addr → Prop) (K : PySem.W.Frag) (A : Ad) (am pl pd : Addr) (g : Ut09.House) (ar nl : Addr) (ns : List Nat) (i : Nat) (H : Hp) (Q : VK) (c : Ut09.Call) : Prop := ∀ (H' : Hp) (p pl' : Addr), MachX N A H' am pl' pd (Ut09.step g c).1 → (pl' = pl ∨ H pl' = none) → RdAt K A H' ar nl ns i →
  SameBut [am, pl, pd, ar] H H' → H p = none → H' p = some (.lst ((Ut09.step g c).2.map V.int)) → Q (.ref p) H'
/-- [number] behind a method of the machine, the reader having gone on before -/
theorem owes_one {H H1 : Hp} {am pl pd ar nl : Addr} {g : Ut09.House} {ns : List Nat} {i : Nat} {c : Ut09.Call} {Q : VK} (hn : ns ≠ []) (M1 : MachX N A H1 am pl pd g) (R1 : RdAt K A H1 ar nl ns i) (s1 : SameBut [ar] H H1) (k : OwesL N K A am pl pd g ar nl ns i H Q c) :
    Owes N A am pl pd g H1 (fun v H2 => [v].length ≤ sizeLine ∧ ∀ p, H2 p = none → Q (.ref p) (upd H2 p (.lst [v]))) c := by
  intro H2 z pl' e M2 hp s2
  refine ⟨by show 1 ≤ sizeLine; decide, fun p np => ?_⟩
  have s3 := same_new (o := .lst [V.int z]) np
  have s12 : SameBut [am, pl, pd, ar] H H2 := (s1.mono (by simp)).trans (s2.mono (by intro x hx; simp only [List.mem_cons, List.not_mem_nil, or_false] at hx ⊢; rcases hx with h | h | h <;> simp [h])) (fun _ h => h)
  have R2 := R1.butM M1 hn s2
  refine k _ p pl' (M2.same s3) (hp.imp id (s1.keep _)) ⟨let ⟨d, h⟩ := R2.ins; ⟨d, s3 _ _ h⟩, s3.seq R2.sq⟩ (s12.trans (Same.but s3 _) (fun _ h => h)) (s12.keep _ np) ?_
  rw [e]
  exact upd_same
end
end Pw
set_option Elab.async false
set_option maxRecDepth 100000
set_option maxHeartbeats 4000000
namespace Pw
open PySem L2
section
variable {P : Program} {w : World} {K : PySem.W.Frag} {mg : Str → Option Value} {base : Heap} {A : Ad} {N : Addr → Prop}
/-- what an answering def is handed: the machine, the reader; what still is to be read -/
structure Desk (N : Addr → Prop) (K : PySem.W.Frag) (A : Ad) (H : Hp) (am pl pd : Addr) (g : Ut09.House) (ar nl : Addr) (ns : List Nat) (i : Nat) : Prop where
  m : MachX N A H am pl pd g
  g : GoodG g
  r : RdAt K A H ar nl ns i
  ne : ns ≠ []
  new : ∀ b, H b = none → N b
theorem Desk.go {H H' : Hp} {am pl pd ar nl : Addr} {g : Ut09.House} {ns : List Nat} {i j : Nat} (D : Desk N K A H am pl pd g ar nl ns i) (R : RdAt K A H' ar nl ns j) (s : SameBut [ar] H H') : Desk N K A H' am pl pd g ar nl ns j := by
  obtain ⟨dr, hr⟩ := D.r.ins
  exact ⟨D.m.butR hr s, D.g, R, D.ne, fun b h => D.new b (s.keep b h)⟩
def sp_answer_pair (K : PySem.W.Frag) (A : Ad) : Sp := fun vs H Q _ => ∃ (N : Addr → Prop) (am pl pd ar nl : Addr) (g : Ut09.House) (ns : List Nat) (i x y c : Nat) (rest : List Nat), vs = [.ref am, .ref ar] ∧ Desk N K A H am pl pd g ar nl ns i ∧ ns.drop i = x :: y :: c :: rest ∧ OwesL N K A am pl pd g ar nl ns (i + 3) H Q (.pair x y c)
theorem ok_answer_pair (T : Txt K mg A) : FnOk P w K mg base CX0 2 A.f_answer_pair A.d_answer_pair ["machine", "reader"] (sp_answer_pair K A) := by
  refine T.F_answer_pair.ok sc_answer_pair (fun vs H Q E h => ?_) (fun cdv Ar outer s H vs Q E hr h => ?_)
  · obtain ⟨N, am, pl, pd, ar, nl, g, ns, i, x, y, c, rest, rfl, _⟩ := h
    rfl
  · obtain ⟨N, am, pl, pd, ar, nl, g, ns, i, x, y, c, rest, rfl, D, hd, k⟩ := h
    refine ⟨_, (pss_cons (ps_set (i := 2) sc_answer_pair.nd rfl (Or.inl rfl) (pe_meth0 (pv 1) T.cl_Reader T.m_Reader_take (ok_Reader_take T) (hr.mono (by decide)) T.b_Reader_take .nil pass0)) (pss_cons (ps_set (i := 3) sc_answer_pair.nd rfl (Or.inl rfl) (pe_meth0 (pv 1) T.cl_Reader T.m_Reader_take (ok_Reader_take T) (hr.mono (by decide)) T.b_Reader_take .nil pass0)) (pss_cons (ps_set (i := 4) sc_answer_pair.nd rfl (Or.inl rfl) (pe_meth0 (pv 1) T.cl_Reader T.m_Reader_take (ok_Reader_take T) (hr.mono (by decide)) T.b_Reader_take .nil pass0)) (pss_one (ps_ret (pe_lst (pa_cons (pe_meth (pv 0) T.cl_Machine T.m_Machine_tell_pair (ok_Machine_tell_pair T) (hr.mono (by decide)) T.b_Machine_tell_pair .nil pass0 (pa_cons (pv 2) (pa_cons (pv 3) (pa_cons (pv 4) pa_nil)))) pa_nil))))))), ?_⟩
    obtain ⟨n0, d0⟩ := drop_get hd
    obtain ⟨n1, d1⟩ := drop_get d0
    obtain ⟨n2, d2⟩ := drop_get d1
    obtain ⟨dr, hr0⟩ := D.r.ins
    refine ⟨_, rfl, ar, dr, _, rfl, hr0, rfl, ar, nl, ns, i, x, rfl, D.r, n0, fun H1 R1 s1 => ?_⟩
    obtain ⟨dr1, hr1⟩ := R1.ins
    refine ⟨_, rfl, ar, dr1, _, rfl, hr1, rfl, ar, nl, ns, i + 1, y, rfl, R1, n1, fun H2 R2 s2 => ?_⟩
    obtain ⟨dr2, hr2⟩ := R2.ins
    refine ⟨_, rfl, ar, dr2, _, rfl, hr2, rfl, ar, nl, ns, i + 1 + 1, c, rfl, R2, n2, fun H3 R3 s3 => ?_⟩
    have s13 := (s1.trans s2 (fun _ h => h)).trans s3 (fun _ h => h)
    have D3 := D.go R3 s13
    obtain ⟨dm, hm⟩ := D3.m.ins
    exact ⟨_, rfl, am, dm, _, rfl, hm, rfl, _, rfl, _, rfl, _, rfl, N, am, pl, pd, g, x, y, c, rfl, D3.m, D3.g, owes_one D3.ne D3.m R3 s13 k⟩
def sp_answer_prices (K : PySem.W.Frag) (A : Ad) : Sp := fun vs H Q _ => ∃ (N : Addr → Prop) (am pl pd ar nl : Addr) (g : Ut09.House) (ns : List Nat) (i x y c : Nat) (rest : List Nat), vs = [.ref am, .ref ar] ∧ Desk N K A H am pl pd g ar nl ns i ∧ ns.drop i = x :: y :: c :: rest ∧ OwesL N K A am pl pd g ar nl ns (i + 3) H Q (.prices x y c)
theorem ok_answer_prices (T : Txt K mg A) : FnOk P w K mg base CX0 2 A.f_answer_prices A.d_answer_prices ["machine", "reader"] (sp_answer_prices K A) := by
  refine T.F_answer_prices.ok sc_answer_prices (fun vs H Q E h => ?_) (fun cdv Ar outer s H vs Q E hr h => ?_)
  · obtain ⟨N, am, pl, pd, ar, nl, g, ns, i, x, y, c, rest, rfl, _⟩ := h
    rfl
  · obtain ⟨N, am, pl, pd, ar, nl, g, ns, i, x, y, c, rest, rfl, D, hd, k⟩ := h
    refine ⟨_, (pss_cons (ps_set (i := 2) sc_answer_prices.nd rfl (Or.inl rfl) (pe_meth0 (pv 1) T.cl_Reader T.m_Reader_take (ok_Reader_take T) (hr.mono (by decide)) T.b_Reader_take .nil pass0)) (pss_cons (ps_set (i := 3) sc_answer_prices.nd rfl (Or.inl rfl) (pe_meth0 (pv 1) T.cl_Reader T.m_Reader_take (ok_Reader_take T) (hr.mono (by decide)) T.b_Reader_take .nil pass0)) (pss_cons (ps_set (i := 4) sc_answer_prices.nd rfl (Or.inl rfl) (pe_meth0 (pv 1) T.cl_Reader T.m_Reader_take (ok_Reader_take T) (hr.mono (by decide)) T.b_Reader_take .nil pass0)) (pss_one (ps_ret (pe_lst (pa_cons (pe_meth (pv 0) T.cl_Machine T.m_Machine_set_prices (ok_Machine_set_prices T) (hr.mono (by decide)) T.b_Machine_set_prices .nil pass0 (pa_cons (pv 2) (pa_cons (pv 3) (pa_cons (pv 4) pa_nil)))) pa_nil))))))), ?_⟩
    obtain ⟨n0, d0⟩ := drop_get hd
    obtain ⟨n1, d1⟩ := drop_get d0
    obtain ⟨n2, d2⟩ := drop_get d1
    obtain ⟨dr, hr0⟩ := D.r.ins
    refine ⟨_, rfl, ar, dr, _, rfl, hr0, rfl, ar, nl, ns, i, x, rfl, D.r, n0, fun H1 R1 s1 => ?_⟩
    obtain ⟨dr1, hr1⟩ := R1.ins
    refine ⟨_, rfl, ar, dr1, _, rfl, hr1, rfl, ar, nl, ns, i + 1, y, rfl, R1, n1, fun H2 R2 s2 => ?_⟩
    obtain ⟨dr2, hr2⟩ := R2.ins
    refine ⟨_, rfl, ar, dr2, _, rfl, hr2, rfl, ar, nl, ns, i + 1 + 1, c, rfl, R2, n2, fun H3 R3 s3 => ?_⟩
    have s13 := (s1.trans s2 (fun _ h => h)).trans s3 (fun _ h => h)
    have D3 := D.go R3 s13
    obtain ⟨dm, hm⟩ := D3.m.ins
    exact ⟨_, rfl, am, dm, _, rfl, hm, rfl, _, rfl, _, rfl, _, rfl, N, am, pl, pd, g, x, y, c, rfl, D3.m, owes_one D3.ne D3.m R3 s13 k⟩
def sp_answer_phrase (K : PySem.W.Frag) (A : Ad) : Sp := fun vs H Q _ => ∃ (N : Addr → Prop) (am pl pd ar nl : Addr) (g : Ut09.House) (ns : List Nat) (i c : Nat) (s t rest : List Nat), vs = [.ref am, .ref ar] ∧ Desk N K A H am pl pd g ar nl ns i ∧ ns.drop i = c :: s.length :: (s ++ t.length :: (t ++ rest)) ∧ s.length ≤ 1000 ∧ t.length ≤ 1000 ∧
  OwesL N K A am pl pd g ar nl ns (i + 1 + 1 + s.length + 1 + t.length) H Q (.phrase s t c)
theorem ok_answer_phrase (T : Txt K mg A) : FnOk P w K mg base CX0 5 A.f_answer_phrase A.d_answer_phrase ["machine", "reader"] (sp_answer_phrase K A) := by
  refine T.F_answer_phrase.ok sc_answer_phrase (fun vs H Q E h => ?_) (fun cdv Ar outer s H vs Q E hr h => ?_)
  · obtain ⟨N, am, pl, pd, ar, nl, g, ns, i, c, s, t, rest, rfl, _⟩ := h
    rfl
  · obtain ⟨N, am, pl, pd, ar, nl, g, ns, i, c, src, tgt, rest, rfl, D, hd, ls, lt, k⟩ := h
    refine ⟨_, (pss_cons (ps_set (i := 2) sc_answer_phrase.nd rfl (Or.inl rfl) (pe_meth0 (pv 1) T.cl_Reader T.m_Reader_take (ok_Reader_take T) (hr.mono (by decide)) T.b_Reader_take .nil pass0)) (pss_cons (ps_set (i := 3) sc_answer_phrase.nd rfl (Or.inl rfl) (pe_meth0 (pv 1) T.cl_Reader T.m_Reader_take_row (ok_Reader_take_row T) (hr.mono (by decide)) T.b_Reader_take_row .nil pass0)) (pss_cons (ps_set (i := 4) sc_answer_phrase.nd rfl (Or.inl rfl) (pe_meth0 (pv 1) T.cl_Reader T.m_Reader_take_row (ok_Reader_take_row T) (hr.mono (by decide)) T.b_Reader_take_row .nil pass0)) (pss_one (ps_ret (pe_lst (pa_cons (pe_meth (pv 0) T.cl_Machine T.m_Machine_add_phrase (ok_Machine_add_phrase T) (hr.mono (by decide)) T.b_Machine_add_phrase .nil pass0 (pa_cons (pv 2) (pa_cons (pv 3) (pa_cons (pv 4) pa_nil)))) pa_nil))))))), ?_⟩
    obtain ⟨n0, d0⟩ := drop_get hd
    have d1 : ns.drop (i + 1 + 1 + src.length) = tgt.length :: (tgt ++ rest) := by
      obtain ⟨_, d⟩ := drop_get d0
      rw [← List.drop_drop, d, List.drop_left]
    obtain ⟨dr, hr0⟩ := D.r.ins
    refine ⟨_, rfl, ar, dr, _, rfl, hr0, rfl, ar, nl, ns, i, c, rfl, D.r, n0, fun H1 R1 s1 => ?_⟩
    have D1 := D.go R1 s1
    obtain ⟨dr1, hr1⟩ := R1.ins
    refine ⟨_, rfl, ar, dr1, _, rfl, hr1, rfl, ar, nl, ns, i + 1, src, _, rfl, R1, d0, fun H2 u R2 s2 hu lu => ?_⟩
    have D2 := D1.go R2 s2
    obtain ⟨dr2, hr2⟩ := R2.ins
    refine ⟨_, rfl, ar, dr2, _, rfl, hr2, rfl, ar, nl, ns, i + 1 + 1 + src.length, tgt, rest, rfl, R2, d1, fun H3 t R3 s3 ht lt' => ?_⟩
    have D3 := D2.go R3 s3
    have s13 := (s1.trans s2 (fun _ h => h)).trans s3 (fun _ h => h)
    obtain ⟨dm, hm⟩ := D3.m.ins
    have nur : u ≠ ar := fun q => by rw [q, hr1] at hu; cases hu
    have lu3 : LstN H3 u src := s3.at_ _ _ lu (by simp [nur])
    obtain ⟨zs1, hz1, _⟩ := D1.m.phs
    obtain ⟨zs2, hz2, _⟩ := D2.m.phs
    have nu : u ≠ pl := fun q => by rw [q, hz1] at hu; cases hu
    have nt : t ≠ pl := fun q => by rw [q, hz2] at ht; cases ht
    exact ⟨_, rfl, am, dm, _, rfl, hm, rfl, _, rfl, _, rfl, _, rfl, N, am, pl, pd, u, t, g, src, tgt, c, rfl, D3.m, D3.g, lu3, lt', ls, lt, nu, nt, D1.new u hu, D2.new t ht, owes_one D3.ne D3.m R3 s13 k⟩
end
end Pw
set_option Elab.async false
set_option maxRecDepth 100000
set_option maxHeartbeats 4000000
namespace Pw
open PySem L2
/-! numbers -/
theorem bitAnd_nat (a b : Nat) : Builtin.bitAnd (a : Int) (b : Int) = ((a &&& b : Nat) : Int) := by
  unfold Builtin.bitAnd
  rw [decide_eq_true (show (0 : Int) ≤ a by omega), decide_eq_true (show (0 : Int) ≤ b by omega)]
  rfl
theorem bitOr_nat (a b : Nat) : Builtin.bitOr (a : Int) (b : Int) = ((a ||| b : Nat) : Int) := by
  unfold Builtin.bitOr Builtin.bitAnd
  have e : ∀ n : Nat, Builtin.bitNot (n : Int) = -(n : Int) - 1 := fun n => rfl
  rw [e, e, decide_eq_false (show ¬ (0 : Int) ≤ -(a : Int) - 1 by omega), decide_eq_false (show ¬ (0 : Int) ≤ -(b : Int) - 1 by omega)]
  show Builtin.bitNot (Builtin.bitNot (((Builtin.bitNot (-(a : Int) - 1)).toNat ||| (Builtin.bitNot (-(b : Int) - 1)).toNat : Nat) : Int)) = _
  have e1 : ∀ n : Nat, (Builtin.bitNot (-(n : Int) - 1)).toNat = n := fun n => by
    unfold Builtin.bitNot
    omega
  rw [e1, e1]
  unfold Builtin.bitNot
  omega
theorem eqv_nats : ∀ (a b : List Nat), PyData.eqv (.list (a.map fun n => PyData.int (n : Nat))) (.list (b.map fun n => PyData.int (n : Nat))) = decide (a = b) := by
  have h : ∀ (a b : List Nat), PyData.eqvAll (a.map fun n => PyData.int (n : Nat)) (b.map fun n => PyData.int (n : Nat)) = decide (a = b) := by
    intro a
    induction a with
    | nil =>
      intro b
      cases b with
      | nil => simp [PyData.eqvAll]
      | cons y b => simp [PyData.eqvAll]
    | cons x a ih =>
      intro b
      cases b with
      | nil => simp [PyData.eqvAll]
      | cons y b =>
        rw [List.map_cons, List.map_cons, PyData.eqvAll, ih b]
        by_cases c : x = y
        · subst c
          simp [PyData.eqv]
        · have : ¬ ((x : Int) = (y : Int)) := by omega
          simp [PyData.eqv, c, this]
  intro a b
  rw [PyData.eqv]
  exact h a b
theorem shaped_nats (a : List Nat) : SeqAt.shaped (.list (a.map fun n => PyData.int (n : Nat))) = true := by
  have h1 : ∀ a : List Nat, PyData.canLayAll0 (a.map fun n => PyData.int (n : Nat)) = true := by
    intro a
    induction a with
    | nil => simp [PyData.canLayAll0]
    | cons x a ih => simp [PyData.canLayAll0, PyData.canLay0, ih]
  have h2 : ∀ a : List Nat, PyData.depthAll (a.map fun n => PyData.int (n : Nat)) ≤ 1 := by
    intro a
    induction a with
    | nil => simp [PyData.depthAll]
    | cons x a ih =>
      simp [PyData.depthAll, PyData.depth]
      exact ih
  unfold SeqAt.shaped
  rw [Bool.and_eq_true]
  refine ⟨?_, decide_eq_true ?_⟩
  · rw [PyData.canLay0]
    exact h1 a
  · rw [PyData.depth]
    have := h2 a
    omega
theorem dp_nats {K : PySem.W.Frag} {H : Hp} : ∀ (l : List Nat), DpAll K H (vN l) (l.map fun n => PyData.int (n : Nat))
  | [] => .nil
  | _ :: l => .cons (.int _) (dp_nats l)
/-! a trail -/
def tF (t : Tr) (sl wl : Addr) : List (Str × V) := [("cost", .int (t.cost : Nat)), ("steps", .ref sl), ("words", .ref wl), ("taken", .int (bitsOf t.free : Nat)), ("ended", .int (t.ended : Nat))]
def TrlX (N : Addr → Prop) (A : Ad) (H : Hp) (a : Addr) (t : Tr) : Prop := ∃ dx sl wl, N a ∧ N sl ∧ N wl ∧ H a = some (.ins A.C_Trail dx (tF t sl wl)) ∧ LstN H sl (flat t.steps) ∧ LstN H wl t.words
abbrev TrlAt (A : Ad) (H : Hp) (a : Addr) (t : Tr) : Prop := TrlX (fun _ => True) A H a t
theorem TrlX.same {N : Addr → Prop} {A : Ad} {H H' : Hp} {a : Addr} {t : Tr} (s : Same H H') (h : TrlX N A H a t) : TrlX N A H' a t := by
  obtain ⟨dx, sl, wl, n1, n2, n3, h1, h2, h3⟩ := h
  exact ⟨dx, sl, wl, n1, n2, n3, s _ _ h1, s _ _ h2, s _ _ h3⟩
theorem TrlX.mono {N N' : Addr → Prop} {A : Ad} {H : Hp} {a : Addr} {t : Tr} (f : ∀ b, N b → N' b) (h : TrlX N A H a t) : TrlX N' A H a t := by
  obtain ⟨dx, sl, wl, n1, n2, n3, r⟩ := h
  exact ⟨dx, sl, wl, f _ n1, f _ n2, f _ n3, r⟩
section
variable {P : Program} {w : World} {K : PySem.W.Frag} {mg : Str → Option Value} {base : Heap} {A : Ad}
def sp_Trail_init (A : Ad) : Sp := fun vs H Q _ => ∃ (p dx sl wl : Addr) (c b e : Nat), vs = [.ref p, .int (c : Nat), .ref sl, .ref wl, .int (b : Nat), .int (e : Nat)] ∧ H p = some (.ins A.C_Trail dx []) ∧
  ∀ H' : Hp, H' p = some (.ins A.C_Trail dx [("cost", .int (c : Nat)), ("steps", .ref sl), ("words", .ref wl), ("taken", .int (b : Nat)), ("ended", .int (e : Nat))]) → (∀ b o, H b = some o → b ≠ p → H' b = some o) → Q .non H'
theorem ok_Trail_init (T : Txt K mg A) : FnOk P w K mg base CX0 1 A.f_Trail_init A.d_Trail_init ["self", "cost", "steps", "words", "taken", "ended"] (sp_Trail_init A) := by
  refine T.F_Trail_init.ok sc_Trail_init (fun vs H Q E h => ?_) (fun cdv Ar outer s H vs Q E hr h => ?_)
  · obtain ⟨p, dx, sl, wl, c, b, e, rfl, _⟩ := h
    rfl
  · obtain ⟨p, dx, sl, wl, c, b, e, rfl, hp, k⟩ := h
    refine ⟨_, (pss_cons (ps_fld (pv 0) (pv 1) rfl) (pss_cons (ps_fld (pv 0) (pv 2) rfl) (pss_cons (ps_fld (pv 0) (pv 3) rfl) (pss_cons (ps_fld (pv 0) (pv 4) rfl) (pss_one (ps_fld (pv 0) (pv 5) rfl)))))), ?_⟩
    refine ⟨_, rfl, _, rfl, p, _, dx, _, rfl, hp, T.cl_Trail, T.n_Trail_cost, (by show 0 < 1000; decide), ?_⟩
    refine ⟨_, rfl, _, rfl, p, _, dx, _, rfl, upd_same, T.cl_Trail, T.n_Trail_steps, (by show 1 < 1000; decide), ?_⟩
    refine ⟨_, rfl, _, rfl, p, _, dx, _, rfl, upd_same, T.cl_Trail, T.n_Trail_words, (by show 2 < 1000; decide), ?_⟩
    refine ⟨_, rfl, _, rfl, p, _, dx, _, rfl, upd_same, T.cl_Trail, T.n_Trail_taken, (by show 3 < 1000; decide), ?_⟩
    refine ⟨_, rfl, _, rfl, p, _, dx, _, rfl, upd_same, T.cl_Trail, T.n_Trail_ended, (by show 4 < 1000; decide), ?_⟩
    refine k _ upd_same fun b o e hb => ?_
    rw [upd_ne hb, upd_ne hb, upd_ne hb, upd_ne hb, upd_ne hb]
    exact e
def sp_last_word (K : PySem.W.Frag) : Sp := fun vs H Q _ => ∃ (a : Addr) (l : List Nat), vs = [.ref a] ∧ SqL K H a (vN l) ∧ Q (.int ((Ut09.lastOf 0 l : Nat) : Int)) H
theorem ok_last_word (T : Txt K mg A) : FnOk P w K mg base CX0 1 A.f_last_word A.d_last_word ["words"] (sp_last_word K) := by
  refine T.F_last_word.ok sc_last_word (fun vs H Q E h => ?_) (fun cdv Ar outer s H vs Q E hr h => ?_)
  · obtain ⟨a, l, rfl, _⟩ := h
    rfl
  · obtain ⟨a, l, rfl, hs, k⟩ := h
    refine ⟨_, (pss_cons (ps_if (pt_cmpR op_eq (pe_callB call_len_seq (by rfl) T.b_len PySem.boot_len (pa_cons (pv 0) pa_nil)) pe_int (nomark _)) (pss_one (ps_ret pe_int)) pss_nil) (pss_one (ps_ret (pe_ix ix_list (pv 0) (pe_un un_neg pe_int) (fun _ _ => rfl))))), ?_⟩
    refine ⟨_, rfl, a, _, rfl, .inl hs, rfl, _, rfl, ?_⟩
    rw [vN_length]
    refine ite2 (fun c => ?_) (fun c => ?_)
    · have e : l.length = 0 := vint_eq.mp (of_decide_eq_true c)
      have e : l = [] := List.length_eq_zero_iff.mp e
      subst e
      exact k
    · have e : l ≠ [] := fun q => c (decide_eq_true (by rw [q]; rfl))
      obtain ⟨l0, z, rfl⟩ : ∃ l0 z, l = l0 ++ [z] := ⟨l.dropLast, l.getLast e, (List.dropLast_concat_getLast e).symm⟩
      have hs' := hs
      rw [vN_append] at hs'
      refine ⟨_, rfl, _, rfl, a, _, _, _, rfl, rfl, hs', atI_last _ _, ?_⟩
      have e2 : Ut09.lastOf 0 (l0 ++ [z]) = z := by
        unfold Ut09.lastOf
        simp
      rw [e2] at k
      exact k
def sp_bits_between : Sp := fun vs H Q _ => ∃ (s e : Nat), vs = [.int (s : Nat), .int (e : Nat)] ∧ s ≤ e ∧ e ≤ 1000 ∧ Q (.int ((2 ^ e - 2 ^ s : Nat) : Int)) H
theorem ok_bits_between (T : Txt K mg A) : FnOk P w K mg base CX0 1 A.f_bits_between A.d_bits_between ["start", "end"] (sp_bits_between) := by
  refine T.F_bits_between.ok sc_bits_between (fun vs H Q E h => ?_) (fun cdv Ar outer s H vs Q E hr h => ?_)
  · obtain ⟨a, b, rfl, _⟩ := h
    rfl
  · obtain ⟨a, b, rfl, hab, hb, k⟩ := h
    refine ⟨_, (pss_one (ps_ret (pe_op op_sub (pe_op op_shl pe_int (pv 1)) (pe_op op_shl pe_int (pv 0))))), ?_⟩
    refine ⟨_, rfl, _, _, rfl, rfl, ⟨by omega, by omega, by decide⟩, _, rfl, _, _, rfl, rfl, ⟨by omega, by omega, by decide⟩, _, _, rfl, rfl, ?_⟩
    have hp : 2 ^ a ≤ 2 ^ b := Nat.pow_le_pow_right (by decide) hab
    have e : (1 : Int) * 2 ^ ((b : Nat) : Int).toNat - 1 * 2 ^ ((a : Nat) : Int).toNat = ((2 ^ b - 2 ^ a : Nat) : Int) := by
      rw [Int.toNat_natCast, Int.toNat_natCast, Int.ofNat_sub hp]
      simp
    show Q (V.int ((1 : Int) * 2 ^ ((b : Nat) : Int).toNat - 1 * 2 ^ ((a : Nat) : Int).toNat)) H
    rw [e]
    exact k
def sp_cost_of_words (K : PySem.W.Frag) (A : Ad) : Sp := fun vs H Q _ => ∃ (a pl pd wl : Addr) (g : Ut09.House) (z : Nat) (l : List Nat), vs = [.ref a, .int (z : Nat), .ref wl] ∧ MachAt A H a pl pd g ∧ SqL K H wl (vN l) ∧ ∀ H', Same H H' → Q (.int ((Ut09.row g.prices z l : Nat) : Int)) H'
theorem row_snoc (p : Ut09.Prices) : ∀ (l : List Nat) (z x : Nat), Ut09.row p z (l ++ [x]) = Ut09.row p z l + Ut09.pairCost p (Ut09.lastOf z l) x
  | [], z, x => by simp [Ut09.row, Ut09.lastOf]
  | y :: l, z, x => by
    rw [List.cons_append]
    show Ut09.pairCost p z y + Ut09.row p y (l ++ [x]) = Ut09.pairCost p z y + Ut09.row p y l + Ut09.pairCost p (Ut09.lastOf z (y :: l)) x
    rw [row_snoc p l y x]
    have : Ut09.lastOf z (y :: l) = Ut09.lastOf y l := by
      unfold Ut09.lastOf
      rw [List.getLastD_cons]
    rw [this]
    omega
theorem ok_cost_of_words (T : Txt K mg A) : FnOk P w K mg base CX0 2 A.f_cost_of_words A.d_cost_of_words ["machine", "ahead", "words"] (sp_cost_of_words K A) := by
  refine T.F_cost_of_words.ok sc_cost_of_words (fun vs H Q E h => ?_) (fun cdv Ar outer s H vs Q E hr h => ?_)
  · obtain ⟨a, pl, pd, wl, g, z, l, rfl, _⟩ := h
    rfl
  · obtain ⟨a, pl, pd, wl, g, z, l, rfl, M, hs, k⟩ := h
    refine ⟨_, (pss_cons (ps_set (i := 3) sc_cost_of_words.nd rfl (Or.inl rfl) pe_int) (pss_cons (ps_for PassesOwn.never rfl (pi_list (pv 2)) (pg_name (i := 4) sc_cost_of_words.nd rfl (Or.inl rfl)) (pss_cons (ps_aug (i := 3) sc_cost_of_words.nd rfl (Or.inl rfl) (pe_meth (pv 0) T.cl_Machine T.m_Machine_cost_behind (ok_Machine_cost_behind T) (hr.mono (by decide)) T.b_Machine_cost_behind .nil pass0 (pa_cons (pv 1) (pa_cons (pv 4) pa_nil))) ip_add) (pss_one (ps_set (i := 1) sc_cost_of_words.nd rfl (Or.inl rfl) (pv 4))))) (pss_one (ps_ret (pv 3))))), ?_⟩
    refine ⟨_, rfl, wl, rfl, ⟨_, hs⟩, for_list (K := K) (a := wl) (xs := vN l) (fun i σ H' => ∃ v : Option V, σ = [some (.ref a), some (.int ((Ut09.lastOf z (l.take i) : Nat) : Int)), some (.ref wl), some (.int ((Ut09.row g.prices z (l.take i) : Nat) : Int)), v] ∧ Same H H')
      ⟨none, rfl, Same.refl H⟩ (fun i σ H' _ ⟨_, _, s1⟩ => s1.seq hs) ?_ ?_⟩
    · rintro i x σ H' hi ⟨v, rfl, s1⟩
      obtain ⟨n, hn, rfl⟩ := vN_get hi
      have M1 := M.same s1
      obtain ⟨dm, hm⟩ := M1.ins
      refine ⟨_, rfl, _, rfl, a, dm, _, rfl, hm, rfl, _, rfl, _, rfl, a, pl, pd, g, _, n, rfl, M1, fun H2 s2 => ?_⟩
      refine ⟨_, _, rfl, rfl, _, rfl, some (.int ((n : Nat) : Int)), ?_, s1.trans s2⟩
      rw [take_more hn, row_snoc]
      have e : Ut09.lastOf z (l.take i ++ [n]) = n := by
        unfold Ut09.lastOf
        simp
      rw [e]
      rfl
    · rintro σ H' ⟨v, rfl, s1⟩
      rw [vN_length, List.take_length]
      exact ⟨_, rfl, k _ s1⟩
end
end Pw
set_option Elab.async false
set_option maxRecDepth 100000
set_option maxHeartbeats 4000000
namespace Pw
open PySem L2
section
variable {P : Program} {w : World} {K : PySem.W.Frag} {mg : Str → Option Value} {base : Heap} {A : Ad}
def sp_closed (A : Ad) : Sp := fun vs H Q _ => ∃ (N : Addr → Prop) (a pl pd b : Addr) (g : Ut09.House) (t : Tr), vs = [.ref a, .ref b] ∧ MachAt A H a pl pd g ∧ TrlX N A H b t ∧ (∀ c, H c = none → N c) ∧ ∀ H' p, Same H H' → TrlX N A H' p (closed g.prices t) → Q (.ref p) H'
theorem ok_closed (T : Txt K mg A) : FnOk P w K mg base CX0 3 A.f_closed A.d_closed ["machine", "trail"] (sp_closed A) := by
  refine T.F_closed.ok sc_closed (fun vs H Q E h => ?_) (fun cdv Ar outer s H vs Q E hr h => ?_)
  · obtain ⟨N, a, pl, pd, b, g, t, rfl, _⟩ := h
    rfl
  · obtain ⟨N, a, pl, pd, b, g, t, rfl, M, B, hN, k⟩ := h
    refine ⟨_, (pss_cons (ps_set (i := 2) sc_closed.nd rfl (Or.inl rfl) (pe_op op_add (pe_fld (pv 1) rfl) (pe_meth (pv 0) T.cl_Machine T.m_Machine_cost_behind (ok_Machine_cost_behind T) (hr.mono (by decide)) T.b_Machine_cost_behind .nil pass0 (pa_cons (pe_call (ok_last_word T) (hr.mono (by decide)) (by rfl) T.g_last_word T.k_last_word T.b_last_word .nil pass0 (pa_cons (pe_fld (pv 1) rfl) pa_nil)) (pa_cons pe_int pa_nil))))) (pss_one (ps_ret (pe_make T.mk_Trail (ok_Trail_init T) (hr.mono (by decide)) (by rfl) T.g_Trail T.b_Trail_init .nil pass0 (pa_cons (pv 2) (pa_cons (pe_fld (pv 1) rfl) (pa_cons (pe_fld (pv 1) rfl) (pa_cons (pe_fld (pv 1) rfl) (pa_cons (pe_fld (pv 1) rfl) pa_nil))))))))), ?_⟩
    obtain ⟨dm, hm⟩ := M.ins
    obtain ⟨dt, sl, wl, _, n2, n3, e1, e2, e3⟩ := id B
    refine ⟨_, rfl, b, _, dt, _, _, rfl, e1, T.cl_Trail, T.n_Trail_cost, rfl, _, rfl, a, dm, _, rfl, hm, rfl, _, rfl, b, _, dt, _, _, rfl, e1, T.cl_Trail, T.n_Trail_words, rfl, wl, t.words, rfl, LstN.sq e3, a, pl, pd, g, t.last, 0, rfl, M, fun H1 s1 => ⟨_, _, rfl, rfl, ?_⟩⟩
    have f1 := s1 _ _ e1
    refine ⟨_, rfl, _, rfl, b, _, dt, _, _, rfl, f1, T.cl_Trail, T.n_Trail_steps, rfl, _, rfl, b, _, dt, _, _, rfl, f1, T.cl_Trail, T.n_Trail_words, rfl, _, rfl, b, _, dt, _, _, rfl, f1, T.cl_Trail, T.n_Trail_taken, rfl, _, rfl, b, _, dt, _, _, rfl, f1, T.cl_Trail, T.n_Trail_ended, rfl, ?_⟩
    intro p dp np ndp nep
    refine ⟨p, dp, sl, wl, t.cost + Ut09.pairCost g.prices t.last 0, bitsOf t.free, t.ended, rfl, upd_same, fun H2 hp2 k2 => ⟨rfl, ?_⟩⟩
    have s2 := s1.trans (Same.made np ndp k2)
    exact k _ p s2 ⟨dp, sl, wl, hN p (s1.free np), n2, n3, hp2, s2 _ _ e2, s2 _ _ e3⟩
def OptAt (A : Ad) (H : Hp) (vb : V) (b : Option Tr) : Prop := (vb = .non ∧ b = none) ∨ ∃ ab tb, vb = .ref ab ∧ b = some tb ∧ TrlAt A H ab tb
theorem OptAt.same {H H' : Hp} {vb : V} {b : Option Tr} (s : Same H H') (h : OptAt A H vb b) : OptAt A H' vb b := by
  rcases h with h | ⟨ab, tb, e1, e2, h⟩
  · exact .inl h
  · exact .inr ⟨ab, tb, e1, e2, h.same s⟩
theorem ints_of (l : List Nat) : vN l = (l.map fun n => ((n : Nat) : Int)).map V.int := by
  unfold vN
  rw [List.map_map]
  rfl
theorem cut_nat {s : List Nat} {i n : Nat} : cutV (vN s) (some ((i : Nat) : Int)) (some ((i + n : Nat) : Int)) = vN ((s.drop i).take n) := by
  unfold cutV
  rw [HT.sIx_nat, HT.sIx_nat, vN_length]
  unfold vN
  rw [← List.map_drop, ← List.map_take]
  congr 1
  rcases Nat.le_total i s.length with h | h
  · rw [Nat.min_eq_left h]
    rcases Nat.le_total (i + n) s.length with h2 | h2
    · rw [Nat.min_eq_left h2]
      congr 1
      omega
    · rw [Nat.min_eq_right h2, List.take_of_length_le (by rw [List.length_drop]; omega), List.take_of_length_le (by rw [List.length_drop]; omega)]
  · rw [Nat.min_eq_right h, Nat.min_eq_right (by omega), List.drop_of_length_le (Nat.le_refl _), List.drop_of_length_le h]
    simp
theorem abs_apart (a b : Nat) : (if ((a : Nat) : Int) - ((b : Nat) : Int) < 0 then -(((a : Nat) : Int) - ((b : Nat) : Int)) else ((a : Nat) : Int) - ((b : Nat) : Int)) = ((Ut09.apart b a : Nat) : Int) := by
  unfold Ut09.apart
  split <;> omega
def sp_may_step (K : PySem.W.Frag) (A : Ad) : Sp := fun vs H Q _ => ∃ (am pl pd sl ta pa : Addr) (g : Ut09.House) (s : List Nat) (t : Tr) (i : Nat) (x : Ut09.Phrase), vs = [.ref am, .ref sl, .ref ta, .int (i : Nat), .ref pa] ∧ MachAt A H am pl pd g ∧ SqL K H sl (vN s) ∧ TrlAt A H ta t ∧ PhrAt A H pa x ∧
  t.free.length = s.length ∧ s.length ≤ 5 ∧ x.source.length ≤ 3 ∧ x.source ≠ [] ∧ ∀ H', Same H H' → Q (.bl (Ut09.may g.prices s t.free t.ended i x)) H'
theorem ok_may_step (T : Txt K mg A) : FnOk P w K mg base CX0 2 A.f_may_step A.d_may_step ["machine", "sentence", "trail", "start", "phrase"] (sp_may_step K A) := by
  refine T.F_may_step.ok sc_may_step (fun vs H Q E h => ?_) (fun cdv Ar outer s H vs Q E hr h => ?_)
  · obtain ⟨am, pl, pd, sl, ta, pa, g, s, t, i, x, rfl, _⟩ := h
    rfl
  · obtain ⟨am, pl, pd, sl, ta, pa, g, s', t, i, x, rfl, M, hs, B, X, fl, ls, lx, nx, k⟩ := h
    refine ⟨_, (pss_cons (ps_set (i := 5) sc_may_step.nd rfl (Or.inl rfl) (pe_op op_add (pv 3) (pe_callB call_len_seq (by rfl) T.b_len PySem.boot_len (pa_cons (pe_fld (pv 4) rfl) pa_nil)))) (pss_cons (ps_if (pt_cmpR (op_neD hr.units) (pe_slice sl_list (pv 1) (po_some (pv 3)) (po_some (pv 5))) (pe_fld (pv 4) rfl) (nomark _)) (pss_one (ps_ret pe_bl)) pss_nil) (pss_cons (ps_if (pt_cmpR op_gt (pe_callB call_abs (by rfl) T.b_abs (by decide +kernel) (pa_cons (pe_op op_sub (pv 3) (pe_fld (pv 2) rfl)) pa_nil)) (pe_fld (pv 0) rfl) (nomark _)) (pss_one (ps_ret pe_bl)) pss_nil) (pss_one (ps_ret (pe_cmpR op_eq (pe_op op_and (pe_fld (pv 2) rfl) (pe_call (ok_bits_between T) (hr.mono (by decide)) (by rfl) T.g_bits_between T.k_bits_between T.b_bits_between .nil pass0 (pa_cons (pv 3) (pa_cons (pv 5) pa_nil)))) pe_int (nomark _))))))), ?_⟩
    obtain ⟨dm, hm⟩ := M.ins
    obtain ⟨dt, u, v, _, _, _, e1, e2, e3⟩ := id B
    obtain ⟨dp, us, ut, x1, x2, x3, _⟩ := id X
    -- end = start + len(phrase.source)
    refine ⟨_, rfl, _, rfl, pa, _, dp, _, _, rfl, x1, T.cl_Phrase, T.n_Phrase_source, rfl, us, _, rfl, .inl (LstN.sq x2), _, _, rfl, rfl, ?_⟩
    rw [vN_length]
    -- if sentence[start:end] != phrase.source
    refine ⟨_, rfl, _, rfl, _, rfl, _, rfl, _, rfl, sl, _, rfl, hs, fun q hq => ?_⟩
    have ec : ((i : Nat) : Int) + ((x.source.length : Nat) : Int) = ((i + x.source.length : Nat) : Int) := by omega
    rw [ec, cut_nat]
    have s1 := same_new (o := .lst (vN ((s'.drop i).take x.source.length))) hq
    refine ⟨_, rfl, pa, _, dp, _, _, rfl, s1 _ _ x1, T.cl_Phrase, T.n_Phrase_source, rfl, _, _, .lst (SqL.of upd_same) (dp_nats _), .lst (SqL.of (s1 _ _ x2)) (dp_nats _), shaped_nats _, shaped_nats _, _, rfl, ?_⟩
    rw [eqv_nats]
    generalize upd H q (.lst (vN ((s'.drop i).take x.source.length))) = H1 at s1
    by_cases cs : (s'.drop i).take x.source.length = x.source
    · rw [decide_eq_true cs]
      refine iteF ?_
      have inside : i + x.source.length ≤ s'.length := by
        have := congrArg List.length cs
        rw [List.length_take, List.length_drop] at this
        have := List.length_pos_iff.mpr nx
        omega
      -- if abs(start - trail.ended) > machine.wide
      refine ⟨_, rfl, _, rfl, ta, _, dt, _, _, rfl, s1 _ _ e1, T.cl_Trail, T.n_Trail_ended, rfl, _, _, rfl, rfl, _, rfl, ?_⟩
      rw [abs_apart]
      refine ⟨_, rfl, am, _, dm, _, _, rfl, s1 _ _ hm, T.cl_Machine, T.n_Machine_wide, rfl, _, _, rfl, rfl, _, rfl, ?_⟩
      refine ite2 (fun c => ?_) (fun c => ?_)
      · have e : Ut09.may g.prices s' t.free t.ended i x = false := by
          unfold Ut09.may
          have := of_decide_eq_true c
          rw [decide_eq_false (show ¬ Ut09.apart t.ended i ≤ g.prices.wide by omega)]
          simp
        rw [e] at k
        exact k H1 s1
      · have cw : Ut09.apart t.ended i ≤ g.prices.wide := by
          have : ¬ ((g.prices.wide : Nat) : Int) < ((Ut09.apart t.ended i : Nat) : Int) := fun z => c (decide_eq_true z)
          omega
        refine ⟨_, rfl, ta, _, dt, _, _, rfl, s1 _ _ e1, T.cl_Trail, T.n_Trail_taken, rfl, _, rfl, _, rfl, i, i + x.source.length, ?_, Nat.le_add_right _ _, by omega, _, _, rfl, rfl, rfl, ?_⟩
        · rw [← ec]
          rfl
        show Q (V.bl (decide (V.int (Builtin.bitAnd ((bitsOf t.free : Nat) : Int) ((2 ^ (i + x.source.length) - 2 ^ i : Nat) : Int)) = V.int 0))) H1
        rw [bitAnd_nat]
        have inf : i + x.source.length ≤ t.free.length := by omega
        have e : Ut09.may g.prices s' t.free t.ended i x = decide (V.int ((bitsOf t.free &&& (2 ^ (i + x.source.length) - 2 ^ i) : Nat) : Int) = V.int 0) := by
          unfold Ut09.may
          rw [cs, decide_eq_true cw, Bool.and_true, beq_self_eq_true, Bool.true_and]
          rw [Bool.eq_iff_iff, decide_eq_true_eq, ← bits_and inf]
          exact (vint_eq (b := 0)).symm
        rw [e] at k
        exact k H1 s1
    · rw [decide_eq_false cs]
      refine iteT ?_
      have e : Ut09.may g.prices s' t.free t.ended i x = false := by
        unfold Ut09.may
        rw [beq_eq_false_iff_ne.mpr cs]
        rfl
      rw [e] at k
      exact k H1 s1
/-! a trail's making, its whole, its order -/
def sp_beginning (A : Ad) : Sp := fun vs H Q _ => vs = [] ∧ ∀ H' p, Same H H' → (∀ s, TrlX (fun b => H b = none) A H' p (start s)) → Q (.ref p) H'
theorem ok_beginning (T : Txt K mg A) : FnOk P w K mg base CX0 3 A.f_beginning A.d_beginning [] (sp_beginning A) := by
  refine T.F_beginning.ok sc_beginning (fun vs H Q E h => ?_) (fun cdv Ar outer s H vs Q E hr h => ?_)
  · obtain ⟨rfl, _⟩ := h
    rfl
  · obtain ⟨rfl, k⟩ := h
    refine ⟨_, (pss_one (ps_ret (pe_make T.mk_Trail (ok_Trail_init T) (hr.mono (by decide)) (by rfl) T.g_Trail T.b_Trail_init .nil pass0 (pa_cons pe_int (pa_cons (pe_lst pa_nil) (pa_cons (pe_lst pa_nil) (pa_cons pe_int (pa_cons pe_int pa_nil)))))))), ?_⟩
    refine ⟨Nat.zero_le _, fun ul hul => ⟨Nat.zero_le _, fun wl hwl => ?_⟩⟩
    intro p dp np ndp nep
    have s1 := same_new (o := .lst []) hul
    have s12 := same_new (o := .lst []) hwl
    have u2 : (upd (upd H ul (.lst [])) wl (.lst [])) ul = some (.lst (vN [])) := s12 _ _ upd_same
    have w2 : (upd (upd H ul (.lst [])) wl (.lst [])) wl = some (.lst (vN [])) := upd_same
    have nw := s1.free hwl
    have s2 := s1.trans s12
    generalize upd (upd H ul (.lst [])) wl (.lst []) = H2 at np ndp s2 u2 w2
    refine ⟨p, dp, ul, wl, 0, 0, 0, rfl, upd_same, fun H3 hp3 k3 => ⟨rfl, ?_⟩⟩
    have s3 : Same H2 H3 := Same.made np ndp k3
    refine k H3 p (s2.trans s3) fun s' => ⟨dp, ul, wl, s2.free np, hul, nw, ?_, s3 _ _ u2, s3 _ _ w2⟩
    have e : tF (start s') ul wl = ([("cost", V.int ((0 : Nat) : Int)), ("steps", V.ref ul), ("words", V.ref wl), ("taken", V.int ((0 : Nat) : Int)), ("ended", V.int ((0 : Nat) : Int))] : List (Str × V)) := by
      unfold tF start
      rw [bits_allFree]
    rw [e]
    exact hp3
def sp_is_whole (K : PySem.W.Frag) (A : Ad) : Sp := fun vs H Q _ => ∃ (sl ta : Addr) (s : List Nat) (t : Tr), vs = [.ref sl, .ref ta] ∧ SqL K H sl (vN s) ∧ TrlAt A H ta t ∧ t.free.length = s.length ∧ s.length ≤ 5 ∧ Q (.bl t.done) H
theorem ok_is_whole (T : Txt K mg A) : FnOk P w K mg base CX0 2 A.f_is_whole A.d_is_whole ["sentence", "trail"] (sp_is_whole K A) := by
  refine T.F_is_whole.ok sc_is_whole (fun vs H Q E h => ?_) (fun cdv Ar outer s H vs Q E hr h => ?_)
  · obtain ⟨sl, ta, s, t, rfl, _⟩ := h
    rfl
  · obtain ⟨sl, ta, s', t, rfl, hs, B, fl, ls, k⟩ := h
    refine ⟨_, (pss_one (ps_ret (pe_cmpR op_eq (pe_fld (pv 1) rfl) (pe_call (ok_bits_between T) (hr.mono (by decide)) (by rfl) T.g_bits_between T.k_bits_between T.b_bits_between .nil pass0 (pa_cons pe_int (pa_cons (pe_callB call_len_seq (by rfl) T.b_len PySem.boot_len (pa_cons (pv 0) pa_nil)) pa_nil))) (nomark _)))), ?_⟩
    obtain ⟨dt, u, v, _, _, _, e1, e2, e3⟩ := id B
    refine ⟨_, rfl, ta, _, dt, _, _, rfl, e1, T.cl_Trail, T.n_Trail_taken, rfl, _, rfl, sl, _, rfl, .inl hs, 0, s'.length, by rw [vN_length]; rfl, Nat.zero_le _, by omega, rfl, ?_⟩
    have e : decide (V.int ((bitsOf t.free : Nat) : Int) = V.int ((2 ^ s'.length - 2 ^ 0 : Nat) : Int)) = t.done := by
      rw [Bool.eq_iff_iff, decide_eq_true_eq, vint_eq, ← fl, bits_done]
      unfold Tr.done
      cases t.free.any fun b => b <;> simp
    rw [e]
    exact k
def sp_may_become (K : PySem.W.Frag) (A : Ad) : Sp := fun vs H Q _ => ∃ (ta : Addr) (vs' : V) (t : Tr) (want : Option (List Nat)), vs = [.ref ta, vs'] ∧ TrlAt A H ta t ∧ ((vs' = .non ∧ want = none) ∨ ∃ b q, vs' = .ref b ∧ want = some q ∧ SqL K H b (vN q)) ∧ ∀ H', Same H H' → Q (.bl (mayBe want t)) H'
theorem cut_take {s : List Nat} {n : Nat} : cutV (vN s) none (some ((n : Nat) : Int)) = vN (s.take n) := by
  have := cut_nat (s := s) (i := 0) (n := n)
  rw [Nat.zero_add, List.drop_zero] at this
  exact this
theorem ok_may_become (T : Txt K mg A) : FnOk P w K mg base CX0 1 A.f_may_become A.d_may_become ["trail", "said"] (sp_may_become K A) := by
  refine T.F_may_become.ok sc_may_become (fun vs H Q E h => ?_) (fun cdv Ar outer s H vs Q E hr h => ?_)
  · obtain ⟨ta, vs', t, want, rfl, _⟩ := h
    rfl
  · obtain ⟨ta, vs', t, want, rfl, B, hw, k⟩ := h
    refine ⟨_, (pss_one (ps_ret (pe_or (pe_cmpR op_isN (pv 1) pe_non (nomark _)) (pe_one (pe_cmpR (op_eqD hr.units) (pe_fld (pv 0) rfl) (pe_slice sl_list (pv 1) po_none (po_some (pe_callB call_len_seq (by rfl) T.b_len PySem.boot_len (pa_cons (pe_fld (pv 0) rfl) pa_nil)))) (nomark _)))))), ?_⟩
    obtain ⟨dt, u, v, _, _, _, e1, e2, e3⟩ := id B
    refine ⟨_, rfl, rfl, _, rfl, ?_⟩
    rcases hw with ⟨rfl, rfl⟩ | ⟨b, q, rfl, rfl, hq⟩
    · rw [decide_eq_true (rfl : V.non = V.non)]
      exact iteT (k H (Same.refl H))
    · rw [decide_eq_false (show ¬ V.ref b = V.non from fun q => by cases q)]
      refine iteF ?_
      refine ⟨_, rfl, ta, _, dt, _, _, rfl, e1, T.cl_Trail, T.n_Trail_words, rfl, _, rfl, _, rfl, ta, _, dt, _, _, rfl, e1, T.cl_Trail, T.n_Trail_words, rfl, v, _, rfl, .inl (LstN.sq e3), _, rfl, b, _, rfl, hq, fun p hp => ?_⟩
      rw [vN_length, cut_take]
      have s1 := same_new (o := .lst (vN (q.take t.words.length))) hp
      refine ⟨_, _, .lst (SqL.of (s1 _ _ e3)) (dp_nats _), .lst (SqL.of upd_same) (dp_nats _), shaped_nats _, shaped_nats _, ?_⟩
      rw [eqv_nats]
      have e : decide (t.words = q.take t.words.length) = mayBe (some q) t := by
        show _ = (t.words == q.take t.words.length)
        rw [Bool.eq_iff_iff, decide_eq_true_eq, beq_iff_eq]
      rw [e]
      exact k _ s1
end
end Pw
set_option Elab.async false
set_option maxRecDepth 100000
set_option maxHeartbeats 4000000
namespace Pw
open PySem L2
section
variable {P : Program} {w : World} {K : PySem.W.Frag} {mg : Str → Option Value} {base : Heap} {A : Ad}
def sp_stepped (A : Ad) : Sp := fun vs H Q _ => ∃ (am pl pd ta pa : Addr) (g : Ut09.House) (t : Tr) (i : Nat) (x : Ut09.Phrase), vs = [.ref am, .ref ta, .int (i : Nat), .ref pa] ∧ MachAt A H am pl pd g ∧ g.prices.jump ≤ 999 ∧ TrlAt A H ta t ∧ PhrAt A H pa x ∧
  i + x.source.length ≤ t.free.length ∧ t.free.length ≤ 5 ∧ t.words.length ≤ 1000 ∧ t.steps.length ≤ 1000 ∧ x.target.length ≤ 3 ∧ ∀ H' p, Same H H' → TrlX (fun b => H b = none) A H' p (stepped g.prices t i x) → Q (.ref p) H'
theorem small_line {n : Nat} (h : n ≤ 5000) : n ≤ sizeLine := Nat.le_trans h (by decide)
theorem flat_length (w : Ut09.Way) : (flat w).length = 2 * w.length := by
  unfold flat
  induction w with
  | nil => rfl
  | cons y w ih =>
    rw [List.flatMap_cons, List.length_append, ih, List.length_cons]
    simp only [List.length_cons, List.length_nil]
    omega
theorem flat_append (a b : Ut09.Way) : flat (a ++ b) = flat a ++ flat b := by
  unfold flat
  rw [List.flatMap_append]
theorem ok_stepped (T : Txt K mg A) : FnOk P w K mg base CX0 3 A.f_stepped A.d_stepped ["machine", "trail", "start", "phrase"] (sp_stepped A) := by
  refine T.F_stepped.ok sc_stepped (fun vs H Q E h => ?_) (fun cdv Ar outer s H vs Q E hr h => ?_)
  · obtain ⟨am, pl, pd, ta, pa, g, t, i, x, rfl, _⟩ := h
    rfl
  · obtain ⟨am, pl, pd, ta, pa, g, t, i, x, rfl, M, hj, B, X, hin, l1, l2, l3, l4, k⟩ := h
    refine ⟨_, (pss_cons (ps_set (i := 4) sc_stepped.nd rfl (Or.inl rfl) (pe_op op_add (pv 2) (pe_callB call_len_seq (by rfl) T.b_len PySem.boot_len (pa_cons (pe_fld (pv 3) rfl) pa_nil)))) (pss_cons (ps_set (i := 5) sc_stepped.nd rfl (Or.inl rfl) (pe_op op_add (pe_op op_add (pe_fld (pv 1) rfl) (pe_fld (pv 3) rfl)) (pe_op op_mul (pe_fld (pv 0) rfl) (pe_callB call_abs (by rfl) T.b_abs (by decide +kernel) (pa_cons (pe_op op_sub (pv 2) (pe_fld (pv 1) rfl)) pa_nil))))) (pss_cons (ps_aug (i := 5) sc_stepped.nd rfl (Or.inl rfl) (pe_call (ok_cost_of_words T) (hr.mono (by decide)) (by rfl) T.g_cost_of_words T.k_cost_of_words T.b_cost_of_words .nil pass0 (pa_cons (pv 0) (pa_cons (pe_call (ok_last_word T) (hr.mono (by decide)) (by rfl) T.g_last_word T.k_last_word T.b_last_word .nil pass0 (pa_cons (pe_fld (pv 1) rfl) pa_nil)) (pa_cons (pe_fld (pv 3) rfl) pa_nil)))) ip_add) (pss_cons (ps_set (i := 6) sc_stepped.nd rfl (Or.inl rfl) (pe_op op_cat (pe_fld (pv 1) rfl) (pe_lst (pa_cons (pv 2) (pa_cons (pe_fld (pv 3) rfl) pa_nil))))) (pss_cons (ps_set (i := 7) sc_stepped.nd rfl (Or.inl rfl) (pe_op op_or (pe_fld (pv 1) rfl) (pe_call (ok_bits_between T) (hr.mono (by decide)) (by rfl) T.g_bits_between T.k_bits_between T.b_bits_between .nil pass0 (pa_cons (pv 2) (pa_cons (pv 4) pa_nil))))) (pss_one (ps_ret (pe_make T.mk_Trail (ok_Trail_init T) (hr.mono (by decide)) (by rfl) T.g_Trail T.b_Trail_init .nil pass0 (pa_cons (pv 5) (pa_cons (pv 6) (pa_cons (pe_op op_cat (pe_fld (pv 1) rfl) (pe_fld (pv 3) rfl)) (pa_cons (pv 7) (pa_cons (pv 4) pa_nil))))))))))))), ?_⟩
    obtain ⟨dm, hm⟩ := M.ins
    obtain ⟨dt, u, v, _, _, _, e1, e2, e3⟩ := id B
    obtain ⟨dp, us, ut, x1, x2, x3, _⟩ := id X
    -- end = start + len(phrase.source)
    refine ⟨_, rfl, _, rfl, pa, _, dp, _, _, rfl, x1, T.cl_Phrase, T.n_Phrase_source, rfl, us, _, rfl, .inl (LstN.sq x2), _, _, rfl, rfl, ?_⟩
    rw [vN_length]
    -- cost = trail.cost + phrase.cost + machine.jump * abs(start - trail.ended)
    refine ⟨_, rfl, ta, _, dt, _, _, rfl, e1, T.cl_Trail, T.n_Trail_cost, rfl, _, rfl, pa, _, dp, _, _, rfl, x1, T.cl_Phrase, T.n_Phrase_cost, rfl, _, _, rfl, rfl, ?_⟩
    refine ⟨_, rfl, am, _, dm, _, _, rfl, hm, T.cl_Machine, T.n_Machine_jump, rfl, _, rfl, _, rfl, ta, _, dt, _, _, rfl, e1, T.cl_Trail, T.n_Trail_ended, rfl, _, _, rfl, rfl, _, rfl, ?_⟩
    rw [abs_apart]
    refine ⟨_, _, rfl, rfl, .inl ⟨by omega, by omega⟩, _, _, rfl, rfl, ?_⟩
    -- cost += cost_of_words(machine, last_word(trail.words), phrase.target)
    refine ⟨_, rfl, _, rfl, _, rfl, ta, _, dt, _, _, rfl, e1, T.cl_Trail, T.n_Trail_words, rfl, v, t.words, rfl, LstN.sq e3, _, rfl, pa, _, dp, _, _, rfl, x1, T.cl_Phrase, T.n_Phrase_target, rfl, am, pl, pd, ut, g, t.last, x.target, rfl, M, LstN.sq x3, fun H1 s1 => ⟨_, _, rfl, rfl, ?_⟩⟩
    -- steps = trail.steps + [start, phrase.number]
    refine ⟨_, rfl, ta, _, dt, _, _, rfl, s1 _ _ e1, T.cl_Trail, T.n_Trail_steps, rfl, _, rfl, _, rfl, pa, _, dp, _, _, rfl, s1 _ _ x1, T.cl_Phrase, T.n_Phrase_number, rfl, (by show 2 ≤ sizeLine; decide), fun q hq => ?_⟩
    have s2 := s1.trans (same_new (o := .lst [V.int ((i : Nat) : Int), V.int ((x.number : Nat) : Int)]) hq)
    have hq2 : (upd H1 q (.lst [V.int ((i : Nat) : Int), V.int ((x.number : Nat) : Int)])) q = some (.lst (vN [i, x.number])) := upd_same
    generalize upd H1 q (.lst [V.int ((i : Nat) : Int), V.int ((x.number : Nat) : Int)]) = H2 at s2 hq2
    refine ⟨u, q, _, _, rfl, rfl, s2 _ _ e2, hq2, ?_, fun sl hsl => ?_⟩
    · rw [vN_length, flat_length]
      exact small_line (by show 2 * t.steps.length + 2 ≤ 5000; omega)
    have s3 := s2.trans (same_new (o := .lst (vN (flat t.steps) ++ vN [i, x.number])) hsl)
    have hsl3 : LstN (upd H2 sl (.lst (vN (flat t.steps) ++ vN [i, x.number]))) sl (flat (stepped g.prices t i x).steps) := by
      unfold LstN
      rw [upd_same, ← vN_append]
      show some (HO.lst (vN (flat t.steps ++ [i, x.number]))) = some (HO.lst (vN (flat (t.steps ++ [(i, x.number)]))))
      rw [flat_append]
      rfl
    have nsl : H sl = none := s2.free hsl
    generalize upd H2 sl (.lst (vN (flat t.steps) ++ vN [i, x.number])) = H3 at s3 hsl3
    -- taken = trail.taken | bits_between(start, end)
    refine ⟨_, rfl, ta, _, dt, _, _, rfl, s3 _ _ e1, T.cl_Trail, T.n_Trail_taken, rfl, _, rfl, _, rfl, i, i + x.source.length, rfl, Nat.le_add_right _ _, by omega, _, _, rfl, rfl, ?_⟩
    -- return Trail(cost, steps, trail.words + phrase.target, taken, end)
    refine ⟨_, rfl, _, rfl, _, rfl, ta, _, dt, _, _, rfl, s3 _ _ e1, T.cl_Trail, T.n_Trail_words, rfl, _, rfl, pa, _, dp, _, _, rfl, s3 _ _ x1, T.cl_Phrase, T.n_Phrase_target, rfl, v, ut, _, _, rfl, rfl, s3 _ _ e3, s3 _ _ x3, ?_, fun wl hwl => ?_⟩
    · rw [vN_length, vN_length]
      exact small_line (by omega)
    have s4 := s3.trans (same_new (o := .lst (vN t.words ++ vN x.target)) hwl)
    have s34 := same_new (o := .lst (vN t.words ++ vN x.target)) hwl
    have hwl4 : LstN (upd H3 wl (.lst (vN t.words ++ vN x.target))) wl (stepped g.prices t i x).words := by
      unfold LstN
      rw [upd_same, ← vN_append]
      rfl
    have nwl : H wl = none := s3.free hwl
    have hsl4 := hsl3.same s34
    generalize upd H3 wl (.lst (vN t.words ++ vN x.target)) = H4 at s4 hwl4 hsl4
    refine ⟨_, rfl, _, rfl, ?_⟩
    intro p dp' np ndp nep
    have ebits : Builtin.bitOr ((bitsOf t.free : Nat) : Int) ((2 ^ (i + x.source.length) - 2 ^ i : Nat) : Int) = ((bitsOf (stepped g.prices t i x).free : Nat) : Int) := by
      rw [bitOr_nat]
      exact congrArg _ (bits_use hin).symm
    have ecost : ((t.cost : Nat) : Int) + ((x.cost : Nat) : Int) + ((g.prices.jump : Nat) : Int) * ((Ut09.apart t.ended i : Nat) : Int) + ((Ut09.row g.prices t.last x.target : Nat) : Int) = (((stepped g.prices t i x).cost : Nat) : Int) := by
      show _ = ((t.cost + (x.cost + g.prices.jump * Ut09.apart t.ended i + Ut09.row g.prices t.last x.target) : Nat) : Int)
      rw [Int.natCast_add, Int.natCast_add, Int.natCast_add, Int.natCast_mul]
      omega
    refine ⟨p, dp', sl, wl, (stepped g.prices t i x).cost, bitsOf (stepped g.prices t i x).free, (stepped g.prices t i x).ended, ?_, upd_same, fun H5 hp5 k5 => ⟨rfl, ?_⟩⟩
    · rw [← ebits, ← ecost]
      rfl
    have s5' : Same H4 H5 := Same.made np ndp k5
    have s5 := s4.trans s5'
    exact k _ p s5 ⟨dp', sl, wl, s4.free np, nsl, nwl, hp5, hsl4.same s5', hwl4.same s5'⟩
end
end Pw
set_option Elab.async false
set_option maxRecDepth 100000
set_option maxHeartbeats 4000000
namespace Pw
open PySem L2
section
variable {P : Program} {w : World} {K : PySem.W.Frag} {mg : Str → Option Value} {base : Heap} {A : Ad}
/-- a list of trails, each with where it lies -/
def refs (zs : List (Addr × Tr)) : List V := zs.map fun z => V.ref z.1
structure Acc (A : Ad) (H : Hp) (L : Addr) (H' : Hp) (us : List (Addr × Tr)) (ts : List Tr) : Prop where
  same : Same H H'
  at_ : H' L = some (.lst (refs us))
  all : ∀ u ∈ us, TrlX (fun b => b ≠ L ∧ H b = none) A H' u.1 u.2
  are : us.map (·.2) = ts
theorem TrlX.updL {N : Addr → Prop} {H : Hp} {a L : Addr} {t : Tr} {o : HO} (h : TrlX N A H a t) (f : ∀ b, N b → b ≠ L) : TrlX N A (upd H L o) a t := by
  obtain ⟨dx, sl, wl, n1, n2, n3, h1, h2, h3⟩ := h
  exact ⟨dx, sl, wl, n1, n2, n3, (upd_ne (f _ n1)).trans h1, (upd_ne (f _ n2)).trans h2, (upd_ne (f _ n3)).trans h3⟩
def sp_longer_trails (K : PySem.W.Frag) (A : Ad) : Sp := fun vs H Q _ => ∃ (am pl pd sl tl : Addr) (g : Ut09.House) (s : List Nat) (zs : List (Addr × Tr)) (n : Nat), vs = [.ref am, .ref sl, .ref tl] ∧ MachAt A H am pl pd g ∧ GoodG g ∧ SqL K H sl (vN s) ∧ s.length ≤ 5 ∧ SqL K H tl (refs zs) ∧
  (∀ z ∈ zs, TrlAt A H z.1 z.2 ∧ TrOk g.prices g.phrases s n z.2) ∧ (longer g.prices g.phrases s (zs.map (·.2))).length ≤ 1000000 ∧
  ∀ H' p us, Same H H' → H p = none → H' p = some (.lst (refs us)) → us.map (·.2) = longer g.prices g.phrases s (zs.map (·.2)) → (∀ u ∈ us, TrlX (fun b => H b = none) A H' u.1 u.2) → Q (.ref p) H'
theorem ok_longer_trails (T : Txt K mg A) : FnOk P w K mg base CX0 4 A.f_longer_trails A.d_longer_trails ["machine", "sentence", "trails"] (sp_longer_trails K A) := by
  refine T.F_longer_trails.ok sc_longer_trails (fun vs H Q E h => ?_) (fun cdv Ar outer s H vs Q E hr h => ?_)
  · obtain ⟨am, pl, pd, sl, tl, g, s, zs, n, rfl, _⟩ := h
    rfl
  · obtain ⟨am, pl, pd, sl, tl, g, s', zs, n, rfl, M, G, hs, ls, ht, hz, big, k⟩ := h
    refine ⟨_, (pss_cons (ps_set (i := 3) sc_longer_trails.nd rfl (Or.inl rfl) (pe_lst pa_nil)) (pss_cons (ps_for PassesOwn.never rfl (pi_list (pv 2)) (pg_name (i := 4) sc_longer_trails.nd rfl (Or.inl rfl)) (pss_one (ps_for PassesOwn.never rfl (pi_range1 (by rfl) T.b_range (pa_cons (pe_callB call_len_seq (by rfl) T.b_len PySem.boot_len (pa_cons (pv 1) pa_nil)) pa_nil)) (pg_name (i := 5) sc_longer_trails.nd rfl (Or.inl rfl)) (pss_one (ps_for PassesOwn.never rfl (pi_list (pe_fld (pv 0) rfl)) (pg_name (i := 6) sc_longer_trails.nd rfl (Or.inl rfl)) (pss_one (ps_if (pt_val (pe_call (ok_may_step T) (hr.mono (by decide)) (by rfl) T.g_may_step T.k_may_step T.b_may_step .nil pass0 (pa_cons (pv 0) (pa_cons (pv 1) (pa_cons (pv 4) (pa_cons (pv 5) (pa_cons (pv 6) pa_nil))))))) (pss_one (ps_expr (pe_bm PySem.F.plainAttrs_list PySem.F.slot_list_append PySem.F.type_list_append mt_append (pv 3) (pa_cons (pe_call (ok_stepped T) (hr.mono (by decide)) (by rfl) T.g_stepped T.k_stepped T.b_stepped .nil pass0 (pa_cons (pv 0) (pa_cons (pv 4) (pa_cons (pv 5) (pa_cons (pv 6) pa_nil))))) pa_nil)))) pss_nil))))))) (pss_one (ps_ret (pv 3))))), ?_⟩
    refine ⟨Nat.zero_le _, fun L hL => ?_⟩
    have s0 := same_new (o := .lst []) hL
    refine ⟨_, rfl, tl, rfl, ⟨_, s0.seq ht⟩, for_list (K := K) (a := tl) (xs := refs zs) (fun i σ H' => ∃ (v1 v2 v3 : Option V) (us : List (Addr × Tr)), σ = [some (.ref am), some (.ref sl), some (.ref tl), some (.ref L), v1, v2, v3] ∧ Acc A H L H' us (longer g.prices g.phrases s' ((zs.map (·.2)).take i)))
      ⟨none, none, none, [], rfl, s0, upd_same, (fun u hu => by cases hu), rfl⟩ (fun i σ H' _ ⟨_, _, _, _, _, a⟩ => a.same.seq ht) ?_ ?_⟩
    · rintro i y σ H' hi ⟨v1, v2, v3, us, rfl, ac⟩
      obtain ⟨z, hzi, rfl⟩ := map_get hi
      obtain ⟨Bz, Oz⟩ := hz z (mem_of_get hzi)
      have hti : (zs.map (·.2))[i]? = some z.2 := by rw [List.getElem?_map, hzi]; rfl
      -- for start in range(len(sentence))
      refine ⟨_, rfl, sl, _, rfl, .inl (ac.same.seq hs), _, rfl, by omega, by rw [vN_length]; omega, for_range (lo := 0) (n := (vN s').length) (fun j σ H' => ∃ (v2 v3 : Option V) (us : List (Addr × Tr)), σ = [some (.ref am), some (.ref sl), some (.ref tl), some (.ref L), some (.ref z.1), v2, v3] ∧ Acc A H L H' us (accAt g.prices g.phrases s' (zs.map (·.2)) i z.2 j 0))
        ⟨v2, v3, us, rfl, by rw [accAt_start]; exact ac⟩ ?_ ?_⟩
      · rintro j σ H1 hj ⟨v2, v3, us, rfl, ac⟩
        rw [vN_length] at hj
        rw [Int.zero_add]
        have M1 := M.same ac.same
        obtain ⟨dm, hm⟩ := M1.ins
        obtain ⟨zp, hp1, hp2, hp3⟩ := M1.phs
        obtain ⟨zp0, hp10, hp20, hp30⟩ := id M.phs
        -- for phrase in machine.phrases
        refine ⟨_, rfl, am, _, dm, _, _, rfl, hm, T.cl_Machine, T.n_Machine_phrases, rfl, pl, rfl, ⟨_, SqL.of hp1⟩, for_list (K := K) (a := pl) (xs := zp0.map fun z => V.ref z.1) (fun m σ H' => ∃ (v3 : Option V) (us : List (Addr × Tr)), σ = [some (.ref am), some (.ref sl), some (.ref tl), some (.ref L), some (.ref z.1), some (.int (j : Nat)), v3] ∧ Acc A H L H' us (accAt g.prices g.phrases s' (zs.map (·.2)) i z.2 j m))
          ⟨v3, us, rfl, ac⟩ (fun m σ H' _ ⟨_, _, _, a⟩ => a.same.seq (SqL.of hp10)) ?_ ?_⟩
        · rintro m y σ H2 hm2 ⟨v3, us, rfl, ac⟩
          obtain ⟨x, hx, rfl⟩ := map_get hm2
          have Px := hp30 x (mem_of_get hx)
          have hxl : g.phrases[m]? = some x.2 := by rw [← hp20, List.getElem?_map, hx]; rfl
          have hxm : x.2 ∈ g.phrases := mem_of_get hxl
          obtain ⟨q1, q2, q3⟩ := G.srcs x.2 hxm
          have M2 := M.same ac.same
          -- if may_step(machine, sentence, trail, start, phrase)
          refine ⟨_, rfl, _, rfl, _, rfl, _, rfl, _, rfl, am, pl, pd, sl, z.1, x.1, g, s', z.2, j, x.2, rfl, M2, ac.same.seq hs, Bz.same ac.same, Px.same ac.same, Oz.fl, ls, q1, G.ph.src x.2 hxm, fun H3 s3 => ⟨_, rfl, ?_⟩⟩
          have acc3 : Acc A H L H3 us (accAt g.prices g.phrases s' (zs.map (·.2)) i z.2 j m) := ⟨ac.same.trans s3, s3 _ _ ac.at_, fun u hu => (ac.all u hu).same s3, ac.are⟩
          rw [accAt_phrase hxl]
          refine ite2 (fun c => ?_) (fun c => ?_)
          · rw [if_pos c]
            have e1 := may_end (G.ph.src x.2 hxm) c
            have wl := Oz.wl
            have fc := Oz.fc
            refine ⟨_, rfl, .inl ⟨rfl, _, SqL.of acc3.at_⟩, _, rfl, _, rfl, _, rfl, _, rfl, am, pl, pd, z.1, x.1, g, z.2, j, x.2, rfl, M.same acc3.same, G.jmp, Bz.same acc3.same, Px.same acc3.same, by rw [Oz.fl]; exact e1, by rw [Oz.fl]; exact ls, by omega, by rw [Oz.len]; omega, q2, fun H4 p s4 N4 => ?_⟩
            refine ⟨L, _, _, rfl, rfl, s4 _ _ acc3.at_, ?_, ?_⟩
            · have e2 : (refs us).length = (accAt g.prices g.phrases s' (zs.map (·.2)) i z.2 j m).length := by
                rw [← acc3.are, List.length_map]
                exact List.length_map _
              have e3 := accAt_length (p := g.prices) (l := g.phrases) (m := m) hti hj
              rw [e2]
              exact Nat.lt_of_le_of_lt (Nat.le_trans e3 big) (by decide)
            · refine ⟨some (.ref x.1), us ++ [(p, stepped g.prices z.2 j x.2)], rfl, ⟨fun b o e => ?_, ?_, ?_, ?_⟩⟩
              · rw [upd_ne (ne_of_none e hL)]
                exact s4 _ _ (acc3.same _ _ e)
              · rw [upd_same]
                unfold refs
                rw [List.map_append]
                rfl
              · intro u hu
                rcases List.mem_append.mp hu with hu | hu
                · exact ((acc3.all u hu).same s4).updL fun _ h => h.1
                · have : u = (p, stepped g.prices z.2 j x.2) := by simpa using hu
                  subst this
                  refine (N4.mono fun b hb => ⟨fun q => ?_, acc3.same.free hb⟩).updL fun _ h => h.1
                  rw [q, acc3.at_] at hb
                  cases hb
              · rw [List.map_append, acc3.are]
                rfl
          · rw [if_neg c, List.append_nil]
            exact ⟨some (.ref x.1), us, rfl, acc3⟩
        · rintro σ H2 ⟨v3, us, rfl, ac⟩
          have e : (zp0.map fun z => V.ref z.1).length = g.phrases.length := by rw [← hp20, List.length_map, List.length_map]
          rw [e, accAt_word] at ac
          exact ⟨some (.int (j : Nat)), v3, us, rfl, ac⟩
      · rintro σ H1 ⟨v2, v3, us, rfl, ac⟩
        rw [vN_length, accAt_trail hti] at ac
        exact ⟨some (.ref z.1), v2, v3, us, rfl, ac⟩
    · rintro σ H' ⟨v1, v2, v3, us, rfl, ac⟩
      have e : (refs zs).length = (zs.map (·.2)).length := by
        unfold refs
        rw [List.length_map, List.length_map]
      rw [e, List.take_length] at ac
      exact ⟨_, rfl, k _ L us ac.same hL ac.at_ ac.are fun u hu => (ac.all u hu).mono fun _ h => h.2⟩
end
end Pw
set_option Elab.async false
set_option maxRecDepth 100000
set_option maxHeartbeats 4000000
namespace Pw
open PySem L2
/-! what is kept of each standing -/
def kvN (kp : Tr → NK) (ms : List (Addr × Tr)) : List (NK × V) := ms.map fun m => (kp m.2, V.ref m.1)
section
variable {kp : Tr → NK}
theorem kvN_val : ∀ {ms : List (Addr × Tr)} {k : NK} {v : V}, valV (kvN kp ms) k = some v → ∃ m ∈ ms, kp m.2 = k ∧ v = V.ref m.1
  | [], k, v, h => by cases h
  | m :: ms, k, v, h => by
    by_cases c : kp m.2 = k
    · rw [show kvN kp (m :: ms) = (kp m.2, V.ref m.1) :: kvN kp ms from rfl, valV_pos (p := (kp m.2, V.ref m.1)) c] at h
      exact ⟨m, List.mem_cons_self, c, (Option.some.inj h).symm⟩
    · rw [show kvN kp (m :: ms) = (kp m.2, V.ref m.1) :: kvN kp ms from rfl, valV_neg (p := (kp m.2, V.ref m.1)) c] at h
      obtain ⟨m', h1, h2⟩ := kvN_val h
      exact ⟨m', List.mem_cons_of_mem _ h1, h2⟩
theorem kvN_keys (ms : List (Addr × Tr)) : (kvN kp ms).map (·.1) = ms.map fun m => kp m.2 := by
  unfold kvN
  rw [List.map_map]
  rfl
/-- what is kept behind some trails -/
structure Keeps (kp : Tr → NK) (zs ms : List (Addr × Tr)) : Prop where
  nd : (ms.map fun m => kp m.2).Nodup
  sub : ∀ m ∈ ms, m ∈ zs
  all : ∀ z ∈ zs, ∃ m ∈ ms, kp m.2 = kp z.2 ∧ better m.2 z.2
  few : ms.length ≤ zs.length
theorem keeps_new {zs ms : List (Addr × Tr)} (h : Keeps kp zs ms) {z : Addr × Tr} (hn : valV (kvN kp ms) (kp z.2) = none) : putK (kvN kp ms) (kp z.2) (.ref z.1) = kvN kp (ms ++ [z]) ∧ Keeps kp (zs ++ [z]) (ms ++ [z]) := by
  refine ⟨?_, ?_, ?_, ?_, ?_⟩
  · rw [putK_new _ hn]
    unfold kvN
    rw [List.map_append]
    rfl
  · rw [List.map_append, List.nodup_append]
    refine ⟨h.nd, by simp, fun x hx y hy => ?_⟩
    have : y = kp z.2 := by simpa using hy
    subst this
    intro e
    have := valV_not hn
    rw [kvN_keys] at this
    rw [e] at hx
    exact this hx
  · intro m hm
    rcases List.mem_append.mp hm with hm | hm
    · exact List.mem_append_left _ (h.sub m hm)
    · exact List.mem_append_right _ hm
  · intro y hy
    rcases List.mem_append.mp hy with hy | hy
    · obtain ⟨m, hm, e1, e2⟩ := h.all y hy
      exact ⟨m, List.mem_append_left _ hm, e1, e2⟩
    · have : y = z := by simpa using hy
      subst this
      exact ⟨y, by simp, rfl, noLater_refl _ _⟩
  · rw [List.length_append, List.length_append]
    have := h.few
    simp only [List.length_cons, List.length_nil]
    omega
theorem keeps_stay {zs ms : List (Addr × Tr)} (h : Keeps kp zs ms) {z m : Addr × Tr} (hm : m ∈ ms) (ek : kp m.2 = kp z.2) (b : better m.2 z.2) : Keeps kp (zs ++ [z]) ms := by
  refine ⟨h.nd, fun m hm => List.mem_append_left _ (h.sub m hm), fun y hy => ?_, ?_⟩
  · rcases List.mem_append.mp hy with hy | hy
    · exact h.all y hy
    · have : y = z := by simpa using hy
      subst this
      exact ⟨m, hm, ek, b⟩
  · rw [List.length_append]
    have := h.few
    omega
theorem keeps_put {zs ms : List (Addr × Tr)} (h : Keeps kp zs ms) {z m : Addr × Tr} (hm : m ∈ ms) (ek : kp m.2 = kp z.2) (b : better z.2 m.2) : ∃ ms', putK (kvN kp ms) (kp z.2) (.ref z.1) = kvN kp ms' ∧ Keeps kp (zs ++ [z]) ms' := by
  have uniq : ∀ m' ∈ ms, kp m'.2 = kp z.2 → m' = m := by
    intro m' hm' e'
    have nd := h.nd
    clear h
    induction ms with
    | nil => cases hm
    | cons y ms ih =>
      rw [List.map_cons, List.nodup_cons] at nd
      rcases List.mem_cons.mp hm with e1 | h1 <;> rcases List.mem_cons.mp hm' with e2 | h2
      · rw [e1, e2]
      · exact (nd.1 (by rw [← e1, ek, ← e']; exact List.mem_map_of_mem (f := fun m : Addr × Tr => kp m.2) h2)).elim
      · exact (nd.1 (by rw [← e2, e', ← ek]; exact List.mem_map_of_mem (f := fun m : Addr × Tr => kp m.2) h1)).elim
      · exact ih h1 h2 nd.2
  have any : ((kvN kp ms).any fun kv => decide (kv.1 = kp z.2)) = true := by
    rw [List.any_eq_true]
    exact ⟨(kp m.2, V.ref m.1), List.mem_map_of_mem (f := fun m : Addr × Tr => (kp m.2, V.ref m.1)) hm, decide_eq_true ek⟩
  refine ⟨ms.map fun m' => if kp m'.2 = kp z.2 then z else m', ?_, ?_, ?_, ?_, ?_⟩
  · unfold putK
    rw [if_pos any]
    unfold kvN
    rw [List.map_map, List.map_map]
    apply List.map_congr_left
    intro m' _
    show (if kp m'.2 = kp z.2 then (kp m'.2, V.ref z.1) else (kp m'.2, V.ref m'.1)) = (kp (if kp m'.2 = kp z.2 then z else m').2, V.ref (if kp m'.2 = kp z.2 then z else m').1)
    by_cases c : kp m'.2 = kp z.2
    · rw [if_pos c, if_pos c, c]
    · rw [if_neg c, if_neg c]
  · have e : (ms.map fun m' => if kp m'.2 = kp z.2 then z else m').map (fun m => kp m.2) = ms.map fun m => kp m.2 := by
      rw [List.map_map]
      apply List.map_congr_left
      intro m' _
      show kp (if kp m'.2 = kp z.2 then z else m').2 = kp m'.2
      by_cases c : kp m'.2 = kp z.2
      · rw [if_pos c, c]
      · rw [if_neg c]
    rw [e]
    exact h.nd
  · intro y hy
    obtain ⟨m', hm', rfl⟩ := List.mem_map.mp hy
    by_cases c : kp m'.2 = kp z.2
    · rw [if_pos c]
      exact List.mem_append_right _ (by simp)
    · rw [if_neg c]
      exact List.mem_append_left _ (h.sub m' hm')
  · have here : z ∈ ms.map fun m' => if kp m'.2 = kp z.2 then z else m' := List.mem_map.mpr ⟨m, hm, by rw [if_pos ek]⟩
    intro y hy
    rcases List.mem_append.mp hy with hy | hy
    · obtain ⟨m', hm', e1, e2⟩ := h.all y hy
      by_cases c : kp m'.2 = kp z.2
      · refine ⟨z, here, ?_, ?_⟩
        · rw [← e1, c]
        · have := uniq m' hm' c
          subst this
          exact noLater_trans b e2
      · exact ⟨m', List.mem_map.mpr ⟨m', hm', by rw [if_neg c]⟩, e1, e2⟩
    · have : y = z := by simpa using hy
      subst this
      exact ⟨y, here, rfl, noLater_refl _ _⟩
  · rw [List.length_map, List.length_append]
    have := h.few
    omega
end
/-! the standings -/
def kStand (m : Bool) (t : Tr) : NK := [.inl (bitsOf t.free : Nat), .inl (t.ended : Nat), if m = true then .inr (t.words.map fun n => ((n : Nat) : Int)) else .inl (t.last : Nat)]
def kWords (t : Tr) : NK := t.words.map fun n => .inl ((n : Nat) : Int)
theorem casts_inj : ∀ {a b : List Nat}, (a.map fun n => ((n : Nat) : Int)) = b.map (fun n => ((n : Nat) : Int)) → a = b
  | [], [], _ => rfl
  | [], _ :: _, h => by cases h
  | _ :: _, [], h => by cases h
  | x :: a, y :: b, h => by
    rw [List.map_cons, List.map_cons, List.cons.injEq] at h
    rw [casts_inj h.2, show x = y by omega]
theorem kStand_stand {m : Bool} {a b : Tr} (h : kStand m a = kStand m b) (l : a.free.length = b.free.length) : stand m a b := by
  unfold kStand at h
  simp only [List.cons.injEq, Sum.inl.injEq, and_true] at h
  refine ⟨bits_inj l (by omega), by omega, ?_⟩
  have h3 := h.2.2
  cases m with
  | true =>
    rw [if_pos rfl, if_pos rfl] at h3
    rw [if_pos rfl]
    exact casts_inj (Sum.inr.inj h3)
  | false =>
    rw [if_neg Bool.false_ne_true, if_neg Bool.false_ne_true] at h3
    rw [if_neg Bool.false_ne_true]
    have := Sum.inl.inj h3
    omega
theorem kWords_words {a b : Tr} (h : kWords a = kWords b) : a.words = b.words := by
  unfold kWords at h
  refine casts_inj ?_
  have := congrArg (List.map fun x : Int ⊕ List Int => match x with | .inl i => i | .inr _ => 0) h
  rw [List.map_map, List.map_map] at this
  exact this
section
variable {P : Program} {w : World} {K : PySem.W.Frag} {mg : Str → Option Value} {base : Heap} {A : Ad}
/-- a def that tells a trail's standing -/
def sp_standing (A : Ad) (kp : Tr → NK) : Sp := fun vs H Q _ => ∃ (a : Addr) (t : Tr), vs = [.ref a] ∧ TrlAt A H a t ∧ t.words.length ≤ 1000 ∧ ∀ H' p, Same H H' → KeyN H' p (kp t) → Q (.ref p) H'
theorem ints_ofN (l : List Nat) : vN l = (l.map fun n => ((n : Nat) : Int)).map V.int := by
  unfold vN
  rw [List.map_map]
  rfl
theorem ok_taken_and_last_word (T : Txt K mg A) : FnOk P w K mg base CX0 2 A.f_taken_and_last_word A.d_taken_and_last_word ["trail"] (sp_standing A (kStand false)) := by
  refine T.F_taken_and_last_word.ok sc_taken_and_last_word (fun vs H Q E h => ?_) (fun cdv Ar outer s H vs Q E hr h => ?_)
  · obtain ⟨a, t, rfl, _⟩ := h
    rfl
  · obtain ⟨a, t, rfl, B, lw, k⟩ := h
    refine ⟨_, (pss_one (ps_ret (pe_tup (pa_cons (pe_fld (pv 0) rfl) (pa_cons (pe_fld (pv 0) rfl) (pa_cons (pe_call (ok_last_word T) (hr.mono (by decide)) (by rfl) T.g_last_word T.k_last_word T.b_last_word .nil pass0 (pa_cons (pe_fld (pv 0) rfl) pa_nil)) pa_nil)))))), ?_⟩
    obtain ⟨dt, u, v, _, _, _, e1, e2, e3⟩ := id B
    refine ⟨_, rfl, a, _, dt, _, _, rfl, e1, T.cl_Trail, T.n_Trail_taken, rfl, _, rfl, a, _, dt, _, _, rfl, e1, T.cl_Trail, T.n_Trail_ended, rfl, _, rfl, a, _, dt, _, _, rfl, e1, T.cl_Trail, T.n_Trail_words, rfl, v, t.words, rfl, LstN.sq e3, (by show 3 ≤ sizeLine; decide), fun tt htt => ?_⟩
    exact k _ tt (same_new htt) ⟨_, upd_same, .cons rfl (.cons rfl (.cons rfl .nil))⟩
theorem ok_taken_and_words (T : Txt K mg A) : FnOk P w K mg base CX0 1 A.f_taken_and_words A.d_taken_and_words ["trail"] (sp_standing A (kStand true)) := by
  refine T.F_taken_and_words.ok sc_taken_and_words (fun vs H Q E h => ?_) (fun cdv Ar outer s H vs Q E hr h => ?_)
  · obtain ⟨a, t, rfl, _⟩ := h
    rfl
  · obtain ⟨a, t, rfl, B, lw, k⟩ := h
    refine ⟨_, (pss_one (ps_ret (pe_tup (pa_cons (pe_fld (pv 0) rfl) (pa_cons (pe_fld (pv 0) rfl) (pa_cons (pe_callTy call_tuple_of (by rfl) T.b_tuple (by decide +kernel) (pa_cons (pe_fld (pv 0) rfl) pa_nil)) pa_nil)))))), ?_⟩
    obtain ⟨dt, u, v, _, _, _, e1, e2, e3⟩ := id B
    refine ⟨_, rfl, a, _, dt, _, _, rfl, e1, T.cl_Trail, T.n_Trail_taken, rfl, _, rfl, a, _, dt, _, _, rfl, e1, T.cl_Trail, T.n_Trail_ended, rfl, _, rfl, a, _, dt, _, _, rfl, e1, T.cl_Trail, T.n_Trail_words, rfl, v, _, rfl, .inl ⟨LstN.sq e3, fun b hb => ?_⟩⟩
    have s1 := same_new (o := .tup (vN t.words)) hb
    refine ⟨(by show 3 ≤ sizeLine; decide), fun tt htt => ?_⟩
    have s2 := same_new (o := .tup [V.int ((bitsOf t.free : Nat) : Int), V.int ((t.ended : Nat) : Int), V.ref b]) htt
    refine k _ tt (s1.trans s2) ⟨_, upd_same, .cons rfl (.cons rfl (.cons ⟨b, rfl, ?_⟩ .nil))⟩
    rw [← ints_ofN]
    exact s2 _ _ upd_same
theorem ok_words_of (T : Txt K mg A) : FnOk P w K mg base CX0 1 A.f_words_of A.d_words_of ["trail"] (sp_standing A kWords) := by
  refine T.F_words_of.ok sc_words_of (fun vs H Q E h => ?_) (fun cdv Ar outer s H vs Q E hr h => ?_)
  · obtain ⟨a, t, rfl, _⟩ := h
    rfl
  · obtain ⟨a, t, rfl, B, lw, k⟩ := h
    refine ⟨_, (pss_one (ps_ret (pe_callTy call_tuple_of (by rfl) T.b_tuple (by decide +kernel) (pa_cons (pe_fld (pv 0) rfl) pa_nil)))), ?_⟩
    obtain ⟨dt, u, v, _, _, _, e1, e2, e3⟩ := id B
    refine ⟨_, rfl, a, _, dt, _, _, rfl, e1, T.cl_Trail, T.n_Trail_words, rfl, v, _, rfl, .inl ⟨LstN.sq e3, fun b hb => ?_⟩⟩
    have all : ∀ (H' : Hp) (l : List Nat), Paired (KItem H') (l.map fun n => Sum.inl ((n : Nat) : Int)) (vN l) := by
      intro H' l
      induction l with
      | nil => exact .nil
      | cons n l ih => exact .cons rfl ih
    exact k _ b (same_new hb) ⟨vN t.words, upd_same, all _ _⟩
/-! the order of a trail -/
theorem dp_natsD (l : List Nat) : DpAll K H (vN l) (natD l) := dp_nats l
def sp_order_of (K : PySem.W.Frag) (A : Ad) : Sp := fun vs H Q _ => ∃ (a : Addr) (t : Tr), vs = [.ref a] ∧ TrlAt A H a t ∧ ∀ H' p, Same H H' → Dp K H' (.ref p) (ordD t.cost t.steps) → Q (.ref p) H'
theorem ok_order_of (T : Txt K mg A) : FnOk P w K mg base CX0 1 A.f_order_of A.d_order_of ["trail"] (sp_order_of K A) := by
  refine T.F_order_of.ok sc_order_of (fun vs H Q E h => ?_) (fun cdv Ar outer s H vs Q E hr h => ?_)
  · obtain ⟨a, t, rfl, _⟩ := h
    rfl
  · obtain ⟨a, t, rfl, B, k⟩ := h
    refine ⟨_, (pss_one (ps_ret (pe_tup (pa_cons (pe_fld (pv 0) rfl) (pa_cons (pe_fld (pv 0) rfl) pa_nil))))), ?_⟩
    obtain ⟨dt, u, v, _, _, _, e1, e2, e3⟩ := id B
    refine ⟨_, rfl, a, _, dt, _, _, rfl, e1, T.cl_Trail, T.n_Trail_cost, rfl, _, rfl, a, _, dt, _, _, rfl, e1, T.cl_Trail, T.n_Trail_steps, rfl, (by show 2 ≤ sizeLine; decide), fun tt htt => ?_⟩
    have s1 := same_new (o := .tup [V.int ((t.cost : Nat) : Int), V.ref u]) htt
    exact k _ tt s1 (.tup (SqT.of upd_same) (.cons (.int _) (.cons (.lst (SqL.of (s1 _ _ e2)) (dp_natsD _)) .nil)))
theorem ord_ne (c : Nat) (w : Ut09.Way) : ordD c w ≠ .none := by
  unfold ordD
  intro q
  cases q
/-! the first of each standing -/
def sp_first_of_each (P : Program) (w : World) (K : PySem.W.Frag) (mg : Str → Option Value) (base : Heap) (A : Ad) : Sp := fun vs H Q _ => ∃ (tl f : Addr) (kp : Tr → NK) (zs : List (Addr × Tr)), vs = [.ref tl, .ref f] ∧ Held P w K mg base 2 f (sp_standing A kp) ∧ SqL K H tl (refs zs) ∧
  (∀ z ∈ zs, TrlAt A H z.1 z.2 ∧ z.2.words.length ≤ 1000) ∧ zs.length ≤ 10000000 ∧
  ∀ H' p us, Same H H' → H p = none → H' p = some (.lst (refs us)) → Keeps kp zs us → Q (.ref p) H'
theorem ok_first_of_each (T : Txt K mg A) : FnOk P w K mg base CX0 3 A.f_first_of_each A.d_first_of_each ["trails", "standing_of"] (sp_first_of_each P w K mg base A) := by
  refine T.F_first_of_each.ok sc_first_of_each (fun vs H Q E h => ?_) (fun cdv Ar outer s H vs Q E hr h => ?_)
  · obtain ⟨tl, f, kp, zs, rfl, _⟩ := h
    rfl
  · obtain ⟨tl, f, kp, zs, rfl, hf, ht, hz, big, k⟩ := h
    refine ⟨_, (pss_cons (ps_set (i := 2) sc_first_of_each.nd rfl (Or.inl rfl) pe_dnewN) (pss_cons (ps_for PassesOwn.never rfl (pi_list (pv 0)) (pg_name (i := 3) sc_first_of_each.nd rfl (Or.inl rfl)) (pss_cons (ps_set (i := 4) sc_first_of_each.nd rfl (Or.inl rfl) (pe_callH (k := 2) (i := 1) (hr.mono (by decide)) rfl (.inl rfl) (pa_cons (pv 3) pa_nil))) (pss_one (ps_if (PW.pt (pw_or (pt_cmp (pc_dnotinN (hu3_of hr) (pv 4) (pv 2))) (pw_or1 (pt_cmpR (op_ltD hr.units) (pe_call (ok_order_of T) (hr.mono (by decide)) (by rfl) T.g_order_of T.k_order_of T.b_order_of .nil pass0 (pa_cons (pv 3) pa_nil)) (pe_call (ok_order_of T) (hr.mono (by decide)) (by rfl) T.g_order_of T.k_order_of T.b_order_of .nil pass0 (pa_cons (pe_dgetN (hu3_of hr) (pv 2) (pv 4) (fun _ _ => rfl)) pa_nil)) (nomark _))))) (pss_one (ps_dputN (hu3_of hr) (pv 2) (pv 4) (pv 3) rfl)) pss_nil)))) (pss_one (ps_ret (pe_listValsN rfl (by rfl) T.b_list (pv 2)))))), ?_⟩
    intro kd hkd H0 s0 D0
    refine ⟨_, rfl, tl, rfl, ⟨_, s0.seq ht⟩, for_list (K := K) (a := tl) (xs := refs zs) (fun i σ H' => ∃ (v3 v4 : Option V) (ms : List (Addr × Tr)), σ = [some (.ref tl), some (.ref f), some (.ref kd), v3, v4] ∧ Same H H' ∧ DctN P w H' kd (kvN kp ms) ∧ Keeps kp (zs.take i) ms)
      ⟨none, none, [], rfl, s0, D0, List.nodup_nil, (fun m hm => by cases hm), (fun z hz => by cases hz), Nat.le_refl _⟩ (fun i σ H' _ ⟨_, _, _, _, s1, _⟩ => s1.seq ht) ?_ ?_⟩
    · rintro i y σ H1 hi ⟨v3, v4, ms, rfl, s1, hk, kpz⟩
      obtain ⟨z, hzi, rfl⟩ := map_get hi
      obtain ⟨Bz, lw⟩ := hz z (mem_of_get hzi)
      -- standing = standing_of(trail)
      refine ⟨f, _, rfl, hf, _, rfl, z.1, z.2, rfl, Bz.same s1, lw, fun H2 tt s2 hkey => ?_⟩
      have s12 := s1.trans s2
      have hk2 := hk.same s2
      have ok2 : ∀ m ∈ zs, TrlAt A H2 m.1 m.2 := fun m hm => ((hz m hm).1).same s12
      have sub : ∀ m ∈ ms, m ∈ zs := fun m hm => List.mem_of_mem_take (kpz.sub m hm)
      have lms : (kvN kp ms).length < sizeLine := by
        have := kpz.few
        rw [List.length_take] at this
        have e : (kvN kp ms).length = ms.length := List.length_map _
        rw [e]
        exact Nat.lt_of_le_of_lt (show ms.length ≤ 10000000 by omega) (by decide)
      have next : ∀ (H3 : Hp) (ms' : List (Addr × Tr)), Same H H3 → DctN P w H3 kd (kvN kp ms') → Keeps kp (zs.take i ++ [z]) ms' → ∃ (v3 v4 : Option V) (ms : List (Addr × Tr)), [some (V.ref tl), some (V.ref f), some (V.ref kd), some (V.ref z.1), some (V.ref tt)] = [some (V.ref tl), some (V.ref f), some (V.ref kd), v3, v4] ∧ Same H H3 ∧ DctN P w H3 kd (kvN kp ms) ∧ Keeps kp (zs.take (i + 1)) ms := fun H3 ms' a b c => ⟨_, _, ms', rfl, a, b, by rw [take_more hzi]; exact c⟩
      -- kept[standing] = trail
      have put : ∀ (H3 : Hp), Same H2 H3 → (∃ ms', putK (kvN kp ms) (kp z.2) (.ref z.1) = kvN kp ms' ∧ Keeps kp (zs.take i ++ [z]) ms') → ∀ D : Ends, (∀ H4, (∃ (v3 v4 : Option V) (ms : List (Addr × Tr)), [some (V.ref tl), some (V.ref f), some (V.ref kd), some (V.ref z.1), some (V.ref tt)] = [some (V.ref tl), some (V.ref f), some (V.ref kd), v3, v4] ∧ Same H H4 ∧ DctN P w H4 kd (kvN kp ms) ∧ Keeps kp (zs.take (i + 1)) ms) → D.nx [some (V.ref tl), some (V.ref f), some (V.ref kd), some (V.ref z.1), some (V.ref tt)] H4) →
          sDPutN P w (tVar 2) (tVar 4) (tVar 3) D [some (V.ref tl), some (V.ref f), some (V.ref kd), some (V.ref z.1), some (V.ref tt)] H3 := by
        intro H3 s3 ⟨ms', e1, e2⟩ D dn
        refine ⟨_, rfl, _, rfl, _, rfl, kd, tt, _, _, rfl, rfl, hk2.same s3, hkey.same s3, lms, fun H4 d4 k4 _ => dn H4 (next H4 ms' (fun b o e => ?_) (by rw [← e1]; exact d4) e2)⟩
        exact k4 b o (s3 _ _ (s12 _ _ e)) (ne_of_none e hkd)
      refine ⟨_, rfl, _, rfl, kd, tt, _, _, rfl, rfl, hk2, hkey, _, rfl, ?_⟩
      cases ev : valV (kvN kp ms) (kp z.2) with
      | none => exact put H2 (Same.refl H2) ⟨_, keeps_new kpz ev⟩ _ fun H4 h => h
      | some v =>
        obtain ⟨m, hm, ek, rfl⟩ := kvN_val ev
        refine ⟨_, rfl, z.1, z.2, rfl, ok2 z (mem_of_get hzi), fun H3 p3 s3 d3 => ?_⟩
        refine ⟨_, rfl, _, rfl, kd, tt, _, _, _, rfl, rfl, hk2.same s3, hkey.same s3, ev, m.1, m.2, rfl, (ok2 m (sub m hm)).same s3, fun H4 p4 s4 d4 => ?_⟩
        refine ⟨_, _, dp_same s4 _ _ d3, d4, alike_ord _ _ _ _, ord_ne _ _, depth_ord _ _, _, rfl, ?_⟩
        refine ite2 (fun c => ?_) (fun c => ?_)
        · have bt : better z.2 m.2 := by
            rcases (lt_ord _ _ _ _).mp c with q | ⟨q, q'⟩
            · exact Or.inl q
            · exact Or.inr ⟨q, Or.inr q'⟩
          exact put H4 (s3.trans s4) (keeps_put kpz hm ek bt) _ fun H5 h => h
        · have bt : better m.2 z.2 := not_lt_ord.mp (by simpa using c)
          exact next H4 ms (s12.trans (s3.trans s4)) (hk2.same (s3.trans s4)) (keeps_stay kpz hm ek bt)
    · rintro σ H1 ⟨v3, v4, ms, rfl, s1, hk, kpz⟩
      have e : (refs zs).length = zs.length := List.length_map _
      rw [e, List.take_length] at kpz
      refine ⟨_, rfl, kd, _, rfl, hk, fun q hq => ?_⟩
      have s2 := same_new (o := .lst ((kvN kp ms).map (·.2))) hq
      refine k _ q ms (s1.trans s2) (s1.free hq) ?_ kpz
      rw [upd_same]
      unfold kvN refs
      rw [List.map_map]
      rfl
end
end Pw
set_option Elab.async false
set_option maxRecDepth 100000
set_option maxHeartbeats 4000000
namespace Pw
open PySem L2
/-! a trail by its address -/
theorem flat_inj : ∀ {a b : Ut09.Way}, flat a = flat b → a = b
  | [], [], _ => rfl
  | [], _ :: _, h => by cases h
  | _ :: _, [], h => by cases h
  | x :: a, y :: b, h => by
    have e : ∀ (z : Ut09.Step) (w : Ut09.Way), flat (z :: w) = z.1 :: z.2 :: flat w := fun z w => rfl
    rw [e, e] at h
    simp only [List.cons.injEq] at h
    obtain ⟨h1, h2, h3⟩ := h
    rw [flat_inj h3, show x = y from Prod.ext h1 h2]
theorem vN_inj {a b : List Nat} (h : vN a = vN b) : a = b := by
  induction a generalizing b with
  | nil =>
    cases b with
    | nil => rfl
    | cons y b => cases h
  | cons x a ih =>
    cases b with
    | nil => cases h
    | cons y b =>
      have h' : V.int ((x : Nat) : Int) :: vN a = V.int ((y : Nat) : Int) :: vN b := h
      injection h' with h1 h2
      rw [ih h2, vint_eq.mp h1]
theorem TrlX.inj {N N' : Addr → Prop} {A : Ad} {H : Hp} {a : Addr} {t t' : Tr} (h : TrlX N A H a t) (h' : TrlX N' A H a t') : t.cost = t'.cost ∧ t.steps = t'.steps ∧ t.words = t'.words := by
  obtain ⟨dx, sl, wl, _, _, _, h1, h2, h3⟩ := h
  obtain ⟨dx', sl', wl', _, _, _, g1, g2, g3⟩ := h'
  rw [h1] at g1
  have e := Option.some.inj g1
  injection e with _ _ e
  unfold tF at e
  simp only [List.cons.injEq, Prod.mk.injEq, V.int.injEq, V.ref.injEq, true_and, and_true] at e
  obtain ⟨e1, e2, e3, _⟩ := e
  subst e2
  subst e3
  have q2 : HO.lst (vN (flat t.steps)) = .lst (vN (flat t'.steps)) := Option.some.inj (Eq.trans (Eq.symm h2) g2)
  have q3 : HO.lst (vN t.words) = .lst (vN t'.words) := Option.some.inj (Eq.trans (Eq.symm h3) g3)
  injection q2 with q2
  injection q3 with q3
  exact ⟨by omega, flat_inj (vN_inj q2), vN_inj q3⟩
def trOf (zs : List (Addr × Tr)) (b : Addr) : Tr := (zs.lookup b).getD ⟨0, [], [], [], 0⟩
theorem trOf_mem : ∀ {zs : List (Addr × Tr)} {b : Addr}, b ∈ zs.map (·.1) → (b, trOf zs b) ∈ zs
  | [], _, h => by cases h
  | z :: zs, b, h => by
    unfold trOf
    rw [List.lookup_cons]
    by_cases c : b = z.1
    · subst c
      simp
    · have e : (b == z.1) = false := beq_eq_false_iff_ne.mpr c
      rw [e]
      rcases List.mem_cons.mp h with h | h
      · exact (c h).elim
      · exact List.mem_cons_of_mem _ (trOf_mem h)
theorem refs_map (zs : List (Addr × Tr)) : refs zs = (zs.map (·.1)).map V.ref := by
  unfold refs
  rw [List.map_map]
  rfl
def keyOf (zs : List (Addr × Tr)) (b : Addr) : PyData := ordD (trOf zs b).cost (trOf zs b).steps
section
variable {P : Program} {w : World} {K : PySem.W.Frag} {mg : Str → Option Value} {base : Heap} {A : Ad}
theorem keyD_of {H : Hp} {zs : List (Addr × Tr)} (hz : ∀ z ∈ zs, TrlAt A H z.1 z.2) : KeyD K H (sp_order_of K A) (zs.map (·.1)) (keyOf zs) where
  call := fun b hb _ _ s1 q => ⟨b, trOf zs b, rfl, (hz _ (trOf_mem hb)).same s1, fun H2 _ s2 d => q _ H2 s2 d⟩
  alike := fun _ _ _ _ => alike_ord _ _ _ _
  tup := fun _ _ => ⟨_, _, rfl⟩
  deep := fun _ _ => depth_ord _ _
  trans := fun a b c h g => ord_trans (a := ((trOf zs a).cost, (trOf zs a).steps)) (b := ((trOf zs b).cost, (trOf zs b).steps)) (c := ((trOf zs c).cost, (trOf zs c).steps)) h g
/-! the cheapest of some -/
def sp_cheapest_of (K : PySem.W.Frag) (A : Ad) : Sp := fun vs H Q _ => ∃ (a : Addr) (zs : List (Addr × Tr)), vs = [.ref a] ∧ SqL K H a (refs zs) ∧ (∀ z ∈ zs, TrlAt A H z.1 z.2) ∧ ∀ H' v b, Same H H' → OptAt A H' v b → LeastOf (zs.map (·.2)) b → Q v H'
theorem ok_cheapest_of (T : Txt K mg A) : FnOk P w K mg base CX0 3 A.f_cheapest_of A.d_cheapest_of ["ways"] (sp_cheapest_of K A) := by
  refine T.F_cheapest_of.ok sc_cheapest_of (fun vs H Q E h => ?_) (fun cdv Ar outer s H vs Q E hr h => ?_)
  · obtain ⟨a, zs, rfl, _⟩ := h
    rfl
  · obtain ⟨a, zs, rfl, hs, hz, k⟩ := h
    refine ⟨_, (pss_one (ps_ret (pe_callBK (cr_minK (ok_order_of T) (hr.mono (by decide)) T.b_order_of) (by rfl) T.b_min (by decide +kernel) (pa_cons (pv 0) pa_nil) (pk_cons (pe_glob (v := .ref A.f_order_of) rfl T.g_order_of rfl) (pk_cons pe_non pk_nil))))), ?_⟩
    refine ⟨_, rfl, a, zs.map (·.1), .non, keyOf zs, rfl, rfl, by rw [← refs_map]; exact hs, keyD_of hz, fun e => ?_, fun b H1 hb low s1 => ?_⟩
    · have e : zs = [] := List.map_eq_nil_iff.mp e
      subst e
      exact k H .non none (Same.refl H) (.inl ⟨rfl, rfl⟩) (.inl ⟨rfl, rfl⟩)
    · have hm := trOf_mem hb
      refine k H1 (.ref b) (some (trOf zs b)) s1 (.inr ⟨b, _, rfl, rfl, (hz _ hm).same s1⟩) (.inr ⟨_, rfl, List.mem_map.mpr ⟨_, hm, rfl⟩, fun v hv => ?_⟩)
      obtain ⟨z, hzm, rfl⟩ := List.mem_map.mp hv
      have hb' : z.1 ∈ zs.map (·.1) := List.mem_map_of_mem hzm
      have l := low z.1 hb'
      unfold keyOf at l
      obtain ⟨i1, i2, _⟩ := (hz _ (trOf_mem hb')).inj (hz z hzm)
      have i1 : (trOf zs z.1).cost = z.2.cost := i1
      have i2 : (trOf zs z.1).steps = z.2.steps := i2
      rw [i1, i2] at l
      exact not_lt_ord.mp l
/-! all ways, or enough of them -/
def Want (K : PySem.W.Frag) (H : Hp) (v : V) (want : Option (List Nat)) : Prop := (v = .non ∧ want = none) ∨ ∃ b q, v = .ref b ∧ want = some q ∧ SqL K H b (vN q)
theorem Want.same {H H' : Hp} {v : V} {want : Option (List Nat)} (s : Same H H') (h : Want K H v want) : Want K H' v want := by
  rcases h with h | ⟨b, q, e1, e2, h⟩
  · exact .inl h
  · exact .inr ⟨b, q, e1, e2, s.seq h⟩
def sp_whole_ways (P : Program) (w : World) (K : PySem.W.Frag) (mg : Str → Option Value) (base : Heap) (A : Ad) : Sp := fun vs H Q _ => ∃ (am pl pd sl f : Addr) (vw : V) (g : Ut09.House) (s : List Nat) (m : Bool) (want : Option (List Nat)), vs = [.ref am, .ref sl, .ref f, vw] ∧ MachAt A H am pl pd g ∧ GoodG g ∧ SqL K H sl (vN s) ∧ s.length ≤ 5 ∧
  Held P w K mg base 2 f (sp_standing A (kStand m)) ∧ Want K H vw want ∧ (want = none ∨ m = true) ∧
  ∀ H' p us, Same H H' → H p = none → H' p = some (.lst (refs us)) → (∀ u ∈ us, TrlAt A H' u.1 u.2) → AllWays g.prices g.phrases s m want (us.map (·.2)) → us.length ≤ 10000000 → Q (.ref p) H'
/-- between two layers -/
structure LayS (A : Ad) (g : Ut09.House) (s : List Nat) (m : Bool) (want : Option (List Nat)) (H : Hp) (L : Addr) (H' : Hp) (tl : Addr) (n : Nat) (zs us : List (Addr × Tr)) : Prop where
  same : Same H H'
  at_ : H' tl = some (.lst (refs zs))
  ne : tl ≠ L
  all : ∀ z ∈ zs, TrlX (fun b => b ≠ L) A H' z.1 z.2
  ways : H' L = some (.lst (refs us))
  allw : ∀ u ∈ us, TrlX (fun b => b ≠ L) A H' u.1 u.2
  lay : LayW g.prices g.phrases s m want n (zs.map (·.2)) (us.map (·.2))
  few : zs.length ≤ many n
  fewW : us.length ≤ n * 933120
  end_ : n ≤ s.length + 1
theorem wholes_take {p : Ut09.Prices} {ts : List Tr} {i : Nat} {t : Tr} (h : ts[i]? = some t) : wholes p (ts.take (i + 1)) = wholes p (ts.take i) ++ if t.done = true then [closed p t] else [] := by
  unfold wholes
  rw [take_more h, List.filter_append, List.map_append]
  congr 1
  cases e : t.done <;> simp [e]
theorem wholes_length (p : Ut09.Prices) (ts : List Tr) : (wholes p ts).length ≤ ts.length := by
  unfold wholes
  rw [List.length_map]
  exact List.length_filter_le _ _
theorem TrlX.notNew {N : Addr → Prop} {H : Hp} {a D : Addr} {t : Tr} (h : TrlX N A H a t) (hD : H D = none) : TrlX (fun b => N b ∧ b ≠ D) A H a t := by
  obtain ⟨dx, sl, wl, n1, n2, n3, h1, h2, h3⟩ := h
  exact ⟨dx, sl, wl, ⟨n1, ne_of_none h1 hD⟩, ⟨n2, ne_of_none h2 hD⟩, ⟨n3, ne_of_none h3 hD⟩, h1, h2, h3⟩
theorem ok_whole_ways (T : Txt K mg A) : FnOk P w K mg base CX0 5 A.f_whole_ways A.d_whole_ways ["machine", "sentence", "standing_of", "said"] (sp_whole_ways P w K mg base A) := by
  refine T.F_whole_ways.ok sc_whole_ways (fun vs H Q E h => ?_) (fun cdv Ar outer s H vs Q E hr h => ?_)
  · obtain ⟨am, pl, pd, sl, f, vw, g, s, m, want, rfl, _⟩ := h
    rfl
  · obtain ⟨am, pl, pd, sl, f, vw, g, s', md, want, rfl, M, G, hs, ls, hf, hw, hm, k⟩ := h
    refine ⟨_, (pss_cons (ps_set (i := 4) sc_whole_ways.nd rfl (Or.inl rfl) (pe_lst pa_nil)) (pss_cons (ps_set (i := 5) sc_whole_ways.nd rfl (Or.inl rfl) (pe_lst (pa_cons (pe_call0 (ok_beginning T) (hr.mono (by decide)) (by rfl) T.g_beginning T.k_beginning T.b_beginning .nil pass0) pa_nil))) (pss_cons (ps_while PassesOwn.never (pt_cmpR op_gt (pe_callB call_len_seq (by rfl) T.b_len PySem.boot_len (pa_cons (pv 5) pa_nil)) pe_int (nomark _)) (pss_cons (ps_expr (pe_bm PySem.F.plainAttrs_list PySem.F.slot_list_extend PySem.F.type_list_extend mt_extend (pv 4) (pa_cons (pe_lc (own := [("trail", 7)]) (g := (gName 7)) (tt := tB (tCall (sp_is_whole K A) [] E0 (tCons (tVar 1) (tCons (tVar 7) tNil)))) (te := tCall (sp_closed A) [] E0 (tCons (tVar 0) (tCons (tVar 7) tNil))) (by rfl) sc_whole_ways.nd (pi_list (pv 5)) (blkOk_by (own := [("trail", 7)]) (N := N_whole_ways) (sc := defScope s_whole_ways) (by decide +kernel)) (fun _ _ _ _ _ => (pg_name (i := 7) sc_whole_ways.nd rfl (Or.inl rfl))) (by exact fun _ _ _ _ _ => (pts_one (pt_val (pe_call (ok_is_whole T) (hr.mono (by decide)) (by rfl) T.g_is_whole T.k_is_whole T.b_is_whole .nil pass0 (pa_cons (pv 1) (pa_cons (pv 7) pa_nil)))))) (by exact fun _ _ _ _ _ => (pe_call (ok_closed T) (hr.mono (by decide)) (by rfl) T.g_closed T.k_closed T.b_closed .nil pass0 (pa_cons (pv 0) (pa_cons (pv 7) pa_nil))))) pa_nil))) (pss_cons (ps_set (i := 6) sc_whole_ways.nd rfl (Or.inl rfl) (pe_call (ok_longer_trails T) (hr.mono (by decide)) (by rfl) T.g_longer_trails T.k_longer_trails T.b_longer_trails .nil pass0 (pa_cons (pv 0) (pa_cons (pv 1) (pa_cons (pv 5) pa_nil))))) (pss_one (ps_set (i := 5) sc_whole_ways.nd rfl (Or.inl rfl) (pe_call (ok_first_of_each T) (hr.mono (by decide)) (by rfl) T.g_first_of_each T.k_first_of_each T.b_first_of_each .nil pass0 (pa_cons (pe_lc (own := [("trail", 7)]) (g := (gName 7)) (tt := tB (tCall (sp_may_become K A) [] E0 (tCons (tVar 7) (tCons (tVar 3) tNil)))) (te := tVar 7) (by rfl) sc_whole_ways.nd (pi_list (pv 6)) (blkOk_by (own := [("trail", 7)]) (N := N_whole_ways) (sc := defScope s_whole_ways) (by decide +kernel)) (fun _ _ _ _ _ => (pg_name (i := 7) sc_whole_ways.nd rfl (Or.inl rfl))) (by exact fun _ _ _ _ _ => (pts_one (pt_val (pe_call (ok_may_become T) (hr.mono (by decide)) (by rfl) T.g_may_become T.k_may_become T.b_may_become .nil pass0 (pa_cons (pv 7) (pa_cons (pv 3) pa_nil)))))) (by exact fun _ _ _ _ _ => (pv 7))) (pa_cons (pv 2) pa_nil)))))))) (pss_one (ps_ret (pv 4)))))), ?_⟩
    -- ways = []
    refine ⟨Nat.zero_le _, fun L hL => ?_⟩
    have s1 := same_new (o := .lst []) hL
    -- trails = [beginning()]
    refine ⟨rfl, fun H2 p s2 st => ⟨by show 1 ≤ sizeLine; decide, fun tl htl => ?_⟩⟩
    have L2 : H2 L = some (.lst (refs [])) := s2 _ _ upd_same
    have s3 := same_new (o := .lst [V.ref p]) htl
    have ntl : tl ≠ L := fun q => by
      rw [q, L2] at htl
      cases htl
    have nL : ∀ b, (upd H L (.lst [])) b = none → b ≠ L := fun b h q => by
      rw [q, upd_same] at h
      cases h
    -- while len(trails) > 0
    refine ⟨fun k σ H' => ∃ n zs us tl v6 v7, σ = [some (.ref am), some (.ref sl), some (.ref f), some vw, some (.ref L), some (.ref tl), v6, v7] ∧ LayS A g s' md want H L H' tl n zs us ∧ k = s'.length + 2 - n, ?_, ?_⟩
    · refine ⟨_, 0, [(p, start s')], [], tl, none, none, rfl, ⟨(s1.trans s2).trans s3, upd_same, ntl, fun z hz => ?_, s3 _ _ L2, (fun u hu => by cases hu), layW_start _ _ _ _ _, Nat.le_refl _, Nat.zero_le _, Nat.zero_le _⟩, rfl⟩
      have : z = (p, start s') := by simpa using hz
      subst this
      exact ((st s').mono nL).same s3
    · rintro k0 σ H5 ⟨n, zs, us, tl, v6, v7, rfl, y, rfl⟩
      refine ⟨_, rfl, tl, _, rfl, .inl (SqL.of y.at_), _, _, rfl, rfl, _, rfl, ?_⟩
      have lz : (refs zs).length = zs.length := List.length_map _
      rw [lz]
      refine ite2 (fun c => ?_) (fun c => ?_)
      · have ne : zs.map (·.2) ≠ [] := by
          intro q
          have q := congrArg List.length q
          rw [List.length_map] at q
          have := of_decide_eq_true c
          simp at q
          rw [q] at this
          simp at this
        have nf := layW_few y.lay ne
        refine ⟨fun σ' H' => ∃ k', k' < s'.length + 2 - n ∧ ∃ n zs us tl v6 v7, σ' = [some (.ref am), some (.ref sl), some (.ref f), some vw, some (.ref L), some (.ref tl), v6, v7] ∧ LayS A g s' md want H L H' tl n zs us ∧ k' = s'.length + 2 - n, fun _ _ h => h, ?_⟩
        have M5 := M.same y.same
        have hs5 := y.same.seq hs
        -- ways.extend([closed(machine, trail) for trail in trails if is_whole(sentence, trail)])
        refine ⟨_, rfl, .inl ⟨rfl, _, SqL.of y.ways⟩, _, rfl, tl, rfl, ⟨_, SqL.of y.at_⟩, fun D hD => ?_⟩
        have nDL : D ≠ L := fun q => by rw [q, y.ways] at hD; cases hD
        have manyb := many_le n
        refine lc_list (K := K) (a := tl) (xs := refs zs) (fun i H' => Same H5 H' ∧ ∃ ds : List (Addr × Tr), H' D = some (.lst (refs ds)) ∧ ds.map (·.2) = wholes g.prices ((zs.map (·.2)).take i) ∧ ∀ d ∈ ds, TrlX (fun b => b ≠ L ∧ b ≠ D) A H' d.1 d.2)
          ⟨same_new hD, [], upd_same, rfl, fun d hd => by cases hd⟩ (fun i H' _ h => h.1.seq (SqL.of y.at_)) ?_ ?_
        · rintro i x H6 hi ⟨s6, ds, d1, d2, d3⟩
          obtain ⟨z, hzi, rfl⟩ := map_get hi
          have hti : (zs.map (·.2))[i]? = some z.2 := by rw [List.getElem?_map, hzi]; rfl
          have Oz := y.lay.ok z.2 (mem_of_get hti)
          have B5 := (y.all z (mem_of_get hzi)).notNew hD
          have B6 := B5.same s6
          have ld : ds.length = (wholes g.prices ((zs.map (·.2)).take i)).length := by rw [← d2, List.length_map]
          have lw := wholes_length g.prices ((zs.map (·.2)).take i)
          rw [List.length_take, List.length_map] at lw
          have lzi : zs.length ≤ many n := y.few
          refine ⟨rfl, _, rfl, _, rfl, sl, z.1, s', z.2, rfl, s6.seq hs5, B6.mono fun _ _ => trivial, Oz.fl, ls, _, rfl, ?_⟩
          rw [wholes_take hti]
          refine ite2 (fun hd => ?_) (fun hd => ?_)
          · rw [if_pos hd]
            refine ⟨_, rfl, _, rfl, fun b => b ≠ L ∧ b ≠ D, am, pl, pd, z.1, g, z.2, rfl, M5.same s6, B6, fun c hc => ⟨fun q => ?_, fun q => ?_⟩, fun H7 q s7 C7 => ?_⟩
            · rw [q, s6 _ _ y.ways] at hc
              cases hc
            · rw [q, d1] at hc
              cases hc
            · refine ⟨_, s7 _ _ d1, ?_, fun b o e => ?_, ds ++ [(q, closed g.prices z.2)], ?_, ?_, fun d hd' => ?_⟩
              · have e : (refs ds).length = ds.length := List.length_map _
                rw [e]
                exact Nat.lt_of_le_of_lt (show ds.length ≤ 933120 by omega) (by decide)
              · rw [upd_ne (ne_of_none e hD)]
                exact s7 _ _ (s6 _ _ e)
              · rw [upd_same]
                unfold refs
                rw [List.map_append]
                rfl
              · rw [List.map_append, d2]
                rfl
              · rcases List.mem_append.mp hd' with hd' | hd'
                · exact ((d3 d hd').same s7).updL fun _ h => h.2
                · have : d = (q, closed g.prices z.2) := by simpa using hd'
                  subst this
                  exact C7.updL fun _ h => h.2
          · rw [if_neg hd, List.append_nil]
            exact ⟨s6, ds, d1, d2, d3⟩
        · rintro H6 ⟨s6, ds, d1, d2, d3⟩
          have lzm : (refs zs).length = (zs.map (·.2)).length := by rw [lz, List.length_map]
          rw [lzm, List.take_length] at d2
          have ld : ds.length ≤ 933120 := by
            have e1 : ds.length = (wholes g.prices (zs.map (·.2))).length := by rw [← d2, List.length_map]
            have e2 := wholes_length g.prices (zs.map (·.2))
            rw [List.length_map] at e2
            have := y.few
            omega
          have lu : (refs us).length = us.length := List.length_map _
          have ldr : (refs ds).length = ds.length := List.length_map _
          have fw : us.length + ds.length ≤ (n + 1) * 933120 := by
            have := y.fewW
            omega
          have n6 : (n + 1) * 933120 ≤ 6 * 933120 := Nat.mul_le_mul_right _ (by omega)
          refine ⟨L, D, _, _, rfl, rfl, s6 _ _ y.ways, d1, ?_, ?_⟩
          · rw [lu, ldr]
            exact Nat.le_trans (show us.length + ds.length ≤ 10000000 by omega) (by decide)
          have e7 : refs us ++ refs ds = refs (us ++ ds) := by
            unfold refs
            rw [List.map_append]
          rw [e7]
          have s57 : Same H (upd H6 L (.lst (refs (us ++ ds)))) := fun b o e => (upd_ne (ne_of_none e hL)).trans (s6 _ _ (y.same _ _ e))
          have up : ∀ b o, H6 b = some o → b ≠ L → upd H6 L (.lst (refs (us ++ ds))) b = some o := fun b o e n => (upd_ne n).trans e
          have w7 : upd H6 L (.lst (refs (us ++ ds))) L = some (.lst (refs (us ++ ds))) := upd_same
          have t7 := up _ _ (s6 _ _ y.at_) y.ne
          have z7 : ∀ z ∈ zs, TrlX (fun b => b ≠ L) A (upd H6 L (.lst (refs (us ++ ds)))) z.1 z.2 := fun z hz => ((y.all z hz).same s6).updL fun _ h => h
          have a7 : ∀ u ∈ us ++ ds, TrlX (fun b => b ≠ L) A (upd H6 L (.lst (refs (us ++ ds)))) u.1 u.2 := fun u hu => by
            rcases List.mem_append.mp hu with hu | hu
            · exact ((y.allw u hu).same s6).updL fun _ h => h
            · exact ((d3 u hu).mono fun _ h => h.1).updL fun _ h => h
          generalize upd H6 L (.lst (refs (us ++ ds))) = H7 at s57 w7 t7 z7 a7
          -- longer = longer_trails(machine, sentence, trails)
          have len := longer_length (p := g.prices) (l := g.phrases) G.ph.src (s := s') (n := n) (ts := zs.map (·.2)) fun t ht => ⟨(y.lay.ok t ht).fl, (y.lay.ok t ht).fc⟩
          rw [List.length_map] at len
          have lenm := many_next (l := g.phrases) (s := s') G.few ls y.few len
          have lenb := Nat.le_trans lenm (many_le (n + 1))
          refine ⟨_, rfl, _, rfl, _, rfl, am, pl, pd, sl, tl, g, s', zs, n, rfl, M.same s57, G, s57.seq hs, ls, SqL.of t7, fun z hz => ⟨(z7 z hz).mono fun _ _ => trivial, y.lay.ok z.2 (List.mem_map_of_mem hz)⟩, by omega, fun H8 q ks s8 nq hq ek all8 => ?_⟩
          have lk : ks.length = (longer g.prices g.phrases s' (zs.map (·.2))).length := by rw [← ek, List.length_map]
          have kmem : ∀ u ∈ ks, u.2 ∈ longer g.prices g.phrases s' (zs.map (·.2)) := fun u hu => by rw [← ek]; exact List.mem_map_of_mem hu
          have ht3 : ∀ x ∈ g.phrases, x.target.length ≤ 3 := fun x hx => (G.srcs x hx).2.1
          have kok : ∀ u ∈ ks, TrOk g.prices g.phrases s' (n + 1) u.2 := fun u hu => by
            obtain ⟨t, ht, i, x, _, hx, hm', e⟩ := mem_longer.mp (kmem u hu)
            rw [e]
            exact stepped_ok G.ph (y.lay.ok t ht) hx hm' (ht3 _ hx)
          have nLk : ∀ u ∈ ks, TrlX (fun b => b ≠ L) A H8 u.1 u.2 := fun u hu => (all8 u hu).mono fun b h q => by
            rw [q, w7] at h
            cases h
          -- trails = first_of_each([trail for trail in longer if may_become(trail, said)], standing_of)
          refine ⟨_, rfl, q, rfl, ⟨_, SqL.of hq⟩, fun D2 hD2 => ?_⟩
          have lkr : (refs ks).length = ks.length := List.length_map _
          refine lc_list (K := K) (a := q) (xs := refs ks) (fun i H' => Same H8 H' ∧ H' D2 = some (.lst (refs ((ks.take i).filter fun u => mayBe want u.2)))) ⟨same_new hD2, upd_same⟩ (fun i H' _ h => h.1.seq (SqL.of hq)) ?_ ?_
          · rintro i x H9 hi ⟨s9, d9⟩
            obtain ⟨u, hui, rfl⟩ := map_get hi
            have B9 := (nLk u (mem_of_get hui)).same s9
            refine ⟨rfl, _, rfl, _, rfl, u.1, vw, u.2, want, rfl, B9.mono fun _ _ => trivial, hw.same ((s57.trans s8).trans s9), fun H10 s10 => ⟨_, rfl, ?_⟩⟩
            rw [filter_take_more hui]
            refine ite2 (fun c => ?_) (fun c => ?_)
            · rw [if_pos c]
              refine ⟨_, rfl, _, s10 _ _ d9, ?_, fun b o e => ?_, ?_⟩
              · have e : (refs ((ks.take i).filter fun u => mayBe want u.2)).length = ((ks.take i).filter fun u => mayBe want u.2).length := List.length_map _
                have e2 := List.length_filter_le (fun u : Addr × Tr => mayBe want u.2) (ks.take i)
                rw [List.length_take] at e2
                rw [e]
                exact Nat.lt_of_le_of_lt (show _ ≤ 933120 by omega) (by decide)
              · rw [upd_ne (ne_of_none e hD2)]
                exact s10 _ _ (s9 _ _ e)
              · rw [upd_same]
                unfold refs
                rw [List.map_append]
                rfl
            · rw [if_neg c, List.append_nil]
              exact ⟨s9.trans s10, s10 _ _ d9⟩
          · rintro H9 ⟨s9, d9⟩
            rw [lkr, List.take_length] at d9
            have sub : ∀ u ∈ ks.filter (fun u => mayBe want u.2), u ∈ ks := fun u hu => (List.mem_filter.mp hu).1
            have lf := List.length_filter_le (fun u : Addr × Tr => mayBe want u.2) ks
            refine ⟨_, rfl, D2, f, kStand md, ks.filter (fun u => mayBe want u.2), rfl, hf, SqL.of d9, fun u hu => ⟨((nLk u (sub u hu)).same s9).mono fun _ _ => trivial, ?_⟩, by omega, fun H10 r ms s10 nr hr10 kp => ?_⟩
            · have := (kok u (sub u hu)).wl
              omega
            have s8' := (s8.trans s9).trans s10
            have km : KeptM md ((longer g.prices g.phrases s' (zs.map (·.2))).filter fun t => mayBe want t) (ms.map (·.2)) := by
              have em : (longer g.prices g.phrases s' (zs.map (·.2))).filter (fun t => mayBe want t) = (ks.filter fun u => mayBe want u.2).map (·.2) := by
                rw [← ek, List.filter_map]
                rfl
              rw [em]
              refine ⟨fun u hu => ?_, fun t ht => ?_⟩
              · obtain ⟨u', hu', rfl⟩ := List.mem_map.mp hu
                exact List.mem_map_of_mem (kp.sub u' hu')
              · obtain ⟨z, hz, rfl⟩ := List.mem_map.mp ht
                obtain ⟨m', hm', e1, e2⟩ := kp.all z hz
                refine ⟨m'.2, List.mem_map_of_mem hm', kStand_stand e1 ?_, e2⟩
                rw [(kok m' (sub m' (kp.sub m' hm'))).fl, (kok z (sub z hz)).fl]
            have w10 := s8' _ _ w7
            have kf := kp.few
            refine ⟨s'.length + 2 - (n + 1), by omega, n + 1, ms, us ++ ds, r, some (.ref q), v7, rfl, ⟨s57.trans s8', hr10, fun z => ?_, fun z hz => ((nLk z (sub z (kp.sub z hz))).same s9).same s10, w10, fun u hu => (a7 u hu).same s8', ?_, by omega, by rw [List.length_append]; exact fw, by omega⟩, rfl⟩
            · rw [z, (s8.trans s9) _ _ w7] at nr
              cases nr
            · rw [List.map_append, d2]
              exact layW_next G.ph ht3 hm y.lay km
      · have e : zs = [] := by
          rcases Nat.eq_zero_or_pos zs.length with q | q
          · exact List.length_eq_zero_iff.mp q
          · exact (c (decide_eq_true (by omega))).elim
        subst e
        have n6 : n * 933120 ≤ 6 * 933120 := Nat.mul_le_mul_right _ (by have := y.end_; omega)
        exact ⟨_, rfl, k _ L us y.same hL y.ways (fun u hu => (y.allw u hu).mono fun _ _ => trivial) (layW_end y.lay) (by have := y.fewW; omega)⟩
end
end Pw
set_option Elab.async false
set_option maxRecDepth 100000
set_option maxHeartbeats 4000000
namespace Pw
open PySem L2
section
variable {P : Program} {w : World} {K : PySem.W.Frag} {mg : Str → Option Value} {base : Heap} {A : Ad}
def sp_cheapest_way (K : PySem.W.Frag) (A : Ad) : Sp := fun vs H Q _ => ∃ (am pl pd sl : Addr) (g : Ut09.House) (s : List Nat), vs = [.ref am, .ref sl] ∧ MachAt A H am pl pd g ∧ GoodG g ∧ SqL K H sl (vN s) ∧ s.length ≤ 5 ∧
  ∀ H' v b, Same H H' → OptAt A H' v b → Ut09.translate g.prices g.phrases s none = b.map found → (∀ t, b = some t → t.words.length ≤ 1000 ∧ t.steps.length ≤ 1000) → Q v H'
theorem least_small {p : Ut09.Prices} {l : List Ut09.Phrase} {s : List Nat} {m : Bool} {want : Option (List Nat)} {ws ts : List Tr} (W : AllWays p l s m want ws) (sub : ∀ t ∈ ts, t ∈ ws) (ls : s.length ≤ 5) {b : Option Tr} (h : LeastOf ts b) : ∀ t, b = some t → t.words.length ≤ 1000 ∧ t.steps.length ≤ 1000 := by
  intro t e
  rcases h with ⟨h, _⟩ | ⟨t', h, hm, _⟩
  · rw [h] at e
    cases e
  · rw [h] at e
    cases e
    obtain ⟨_, h1, h2⟩ := W.snd t (sub t hm)
    omega
theorem ok_cheapest_way (T : Txt K mg A) : FnOk P w K mg base CX0 6 A.f_cheapest_way A.d_cheapest_way ["machine", "sentence"] (sp_cheapest_way K A) := by
  refine T.F_cheapest_way.ok sc_cheapest_way (fun vs H Q E h => ?_) (fun cdv Ar outer s H vs Q E hr h => ?_)
  · obtain ⟨am, pl, pd, sl, g, s, rfl, _⟩ := h
    rfl
  · obtain ⟨am, pl, pd, sl, g, s', rfl, M, G, hs, ls, k⟩ := h
    refine ⟨_, (pss_one (ps_ret (pe_call (ok_cheapest_of T) (hr.mono (by decide)) (by rfl) T.g_cheapest_of T.k_cheapest_of T.b_cheapest_of .nil pass0 (pa_cons (pe_call (ok_whole_ways T) (hr.mono (by decide)) (by rfl) T.g_whole_ways T.k_whole_ways T.b_whole_ways .nil pass0 (pa_cons (pv 0) (pa_cons (pv 1) (pa_cons (pe_glob (v := .ref A.f_taken_and_last_word) rfl T.g_taken_and_last_word rfl) (pa_cons pe_non pa_nil))))) pa_nil)))), ?_⟩
    refine ⟨_, rfl, _, rfl, am, pl, pd, sl, A.f_taken_and_last_word, .non, g, s', false, none, rfl, M, G, hs, ls, ⟨_, _, ok_taken_and_last_word T, T.k_taken_and_last_word, T.b_taken_and_last_word⟩, .inl ⟨rfl, rfl⟩, .inl rfl, fun H1 p us s1 _ hp all W _ => ?_⟩
    refine ⟨p, us, rfl, SqL.of hp, all, fun H2 v b s2 ob least => ?_⟩
    have ef : ((us.map (·.2)).filter fun v => fitsB none v.words) = us.map (·.2) := List.filter_eq_self.mpr fun _ _ => rfl
    exact k H2 v b (s1.trans s2) ob (translate_least G.ph (.inl rfl) W (by rw [ef]; exact least)) (least_small W (fun _ h => h) ls least)
def sp_cheapest_way_to_say (K : PySem.W.Frag) (A : Ad) : Sp := fun vs H Q _ => ∃ (am pl pd sl ql : Addr) (g : Ut09.House) (s q : List Nat), vs = [.ref am, .ref sl, .ref ql] ∧ MachAt A H am pl pd g ∧ GoodG g ∧ SqL K H sl (vN s) ∧ s.length ≤ 5 ∧ SqL K H ql (vN q) ∧
  ∀ H' v b, Same H H' → OptAt A H' v b → Ut09.translate g.prices g.phrases s (some q) = b.map found → (∀ t, b = some t → t.words.length ≤ 1000 ∧ t.steps.length ≤ 1000) → Q v H'
theorem ok_cheapest_way_to_say (T : Txt K mg A) : FnOk P w K mg base CX0 6 A.f_cheapest_way_to_say A.d_cheapest_way_to_say ["machine", "sentence", "said"] (sp_cheapest_way_to_say K A) := by
  refine T.F_cheapest_way_to_say.ok sc_cheapest_way_to_say (fun vs H Q E h => ?_) (fun cdv Ar outer s H vs Q E hr h => ?_)
  · obtain ⟨am, pl, pd, sl, ql, g, s, q, rfl, _⟩ := h
    rfl
  · obtain ⟨am, pl, pd, sl, ql, g, s', q, rfl, M, G, hs, ls, hq, k⟩ := h
    refine ⟨_, (pss_cons (ps_set (i := 3) sc_cheapest_way_to_say.nd rfl (Or.inl rfl) (pe_call (ok_whole_ways T) (hr.mono (by decide)) (by rfl) T.g_whole_ways T.k_whole_ways T.b_whole_ways .nil pass0 (pa_cons (pv 0) (pa_cons (pv 1) (pa_cons (pe_glob (v := .ref A.f_taken_and_words) rfl T.g_taken_and_words rfl) (pa_cons (pv 2) pa_nil)))))) (pss_one (ps_ret (pe_call (ok_cheapest_of T) (hr.mono (by decide)) (by rfl) T.g_cheapest_of T.k_cheapest_of T.b_cheapest_of .nil pass0 (pa_cons (pe_lc (own := [("way", 4)]) (g := (gName 4)) (tt := tTest (tOp (rEqD K) (tFld K (tVar 4) "words") (tVar 2))) (te := tVar 4) (by rfl) sc_cheapest_way_to_say.nd (pi_list (pv 3)) (blkOk_by (own := [("way", 4)]) (N := N_cheapest_way_to_say) (sc := defScope s_cheapest_way_to_say) (by decide +kernel)) (fun _ _ _ _ _ => (pg_name (i := 4) sc_cheapest_way_to_say.nd rfl (Or.inl rfl))) (by exact fun _ _ _ _ _ => (pts_one (pt_cmpR (op_eqD hr.units) (pe_fld (pv 4) rfl) (pv 2) (nomark _)))) (by exact fun _ _ _ _ _ => (pv 4))) pa_nil))))), ?_⟩
    refine ⟨_, rfl, _, rfl, _, rfl, am, pl, pd, sl, A.f_taken_and_words, .ref ql, g, s', true, some q, rfl, M, G, hs, ls, ⟨_, _, (ok_taken_and_words T).mono (by decide), T.k_taken_and_words, T.b_taken_and_words⟩, .inr ⟨ql, q, rfl, rfl, hq⟩, .inr rfl, fun H1 p us s1 _ hp all W few => ?_⟩
    -- [way for way in ways if way.words == said]
    refine ⟨_, rfl, p, rfl, ⟨_, SqL.of hp⟩, fun D hD => ?_⟩
    have lu : (refs us).length = us.length := List.length_map _
    refine lc_list (K := K) (a := p) (xs := refs us) (fun i H' => Same H1 H' ∧ H' D = some (.lst (refs ((us.take i).filter fun u => fitsB (some q) u.2.words)))) ⟨same_new hD, upd_same⟩ (fun i H' _ h => h.1.seq (SqL.of hp)) ?_ ?_
    · rintro i x H2 hi ⟨s2, d2⟩
      obtain ⟨u, hui, rfl⟩ := map_get hi
      obtain ⟨dt, ul, wl, _, _, _, e1, e2, e3⟩ := (all u (mem_of_get hui)).same s2
      refine ⟨rfl, _, rfl, u.1, _, dt, _, _, rfl, e1, T.cl_Trail, T.n_Trail_words, rfl, _, rfl, _, _, .lst (SqL.of e3) (dp_nats _), .lst ((s1.trans s2).seq hq) (dp_nats _), shaped_nats _, shaped_nats _, _, rfl, ?_⟩
      rw [eqv_nats, filter_take_more hui]
      have e : decide (u.2.words = q) = fitsB (some q) u.2.words := by
        show _ = (u.2.words == q)
        rw [Bool.eq_iff_iff, decide_eq_true_eq, beq_iff_eq]
      rw [e]
      refine ite2 (fun c => ?_) (fun c => ?_)
      · rw [if_pos c]
        refine ⟨_, rfl, _, d2, ?_, fun b o e => ?_, ?_⟩
        · have e : (refs ((us.take i).filter fun u => fitsB (some q) u.2.words)).length = ((us.take i).filter fun u => fitsB (some q) u.2.words).length := List.length_map _
          have e2 := List.length_filter_le (fun u : Addr × Tr => fitsB (some q) u.2.words) (us.take i)
          rw [List.length_take] at e2
          rw [e]
          exact Nat.lt_of_le_of_lt (show _ ≤ 10000000 by omega) (by decide)
        · rw [upd_ne (ne_of_none e hD)]
          exact s2 _ _ e
        · rw [upd_same]
          unfold refs
          rw [List.map_append]
          rfl
      · rw [if_neg c, List.append_nil]
        exact ⟨s2, d2⟩
    · rintro H2 ⟨s2, d2⟩
      rw [lu, List.take_length] at d2
      refine ⟨D, _, rfl, SqL.of d2, fun z hz => (all z (List.mem_filter.mp hz).1).same s2, fun H3 v b s3 ob least => ?_⟩
      have em : (us.filter fun u => fitsB (some q) u.2.words).map (·.2) = (us.map (·.2)).filter fun v => fitsB (some q) v.words := by
        rw [List.filter_map]
        rfl
      rw [em] at least
      exact k H3 v b ((s1.trans s2).trans s3) ob (translate_least G.ph (.inr rfl) W least) (least_small W (fun t h => (List.mem_filter.mp h).1) ls least)
/-! the sentences -/
theorem cut_first {xs : List V} {n : Nat} : cutV xs none (some ((n : Nat) : Int)) = xs.take n := by
  unfold cutV
  rw [HT.sIx_nat]
  have e : HT.sIx xs.length 0 none = 0 := rfl
  rw [e, List.drop_zero, Nat.sub_zero]
  rcases Nat.le_total n xs.length with h | h
  · rw [Nat.min_eq_left h]
  · rw [Nat.min_eq_right h, List.take_of_length_le (Nat.le_refl _), List.take_of_length_le h]
theorem trOf_eq : ∀ {zs : List (Addr × Tr)}, (zs.map (·.1)).Nodup → ∀ z ∈ zs, trOf zs z.1 = z.2
  | [], _, z, h => by cases h
  | y :: zs, nd, z, h => by
    rw [List.map_cons, List.nodup_cons] at nd
    unfold trOf
    rw [List.lookup_cons]
    rcases List.mem_cons.mp h with rfl | h'
    · simp
    · have ne : z.1 ≠ y.1 := fun e => nd.1 (by rw [← e]; exact List.mem_map_of_mem h')
      rw [beq_eq_false_iff_ne.mpr ne]
      exact trOf_eq nd.2 z h'
def sp_cheapest_sentences (K : PySem.W.Frag) (A : Ad) : Sp := fun vs H Q _ => ∃ (am pl pd sl : Addr) (g : Ut09.House) (s : List Nat) (n : Nat), vs = [.ref am, .ref sl, .int (n : Nat)] ∧ MachAt A H am pl pd g ∧ GoodG g ∧ SqL K H sl (vN s) ∧ s.length ≤ 5 ∧
  ∀ H' p us, Same H H' → H p = none → H' p = some (.lst (refs us)) → (∀ u ∈ us, TrlAt A H' u.1 u.2 ∧ u.2.words.length ≤ 15 ∧ u.2.steps.length ≤ 5) → us.map (fun u => found u.2) = (Ut09.sentences g.prices g.phrases s).take n → Q (.ref p) H'
theorem ok_cheapest_sentences (T : Txt K mg A) : FnOk P w K mg base CX0 6 A.f_cheapest_sentences A.d_cheapest_sentences ["machine", "sentence", "much"] (sp_cheapest_sentences K A) := by
  refine T.F_cheapest_sentences.ok sc_cheapest_sentences (fun vs H Q E h => ?_) (fun cdv Ar outer s H vs Q E hr h => ?_)
  · obtain ⟨am, pl, pd, sl, g, s, n, rfl, _⟩ := h
    rfl
  · obtain ⟨am, pl, pd, sl, g, s', n, rfl, M, G, hs, ls, k⟩ := h
    refine ⟨_, (pss_cons (ps_set (i := 3) sc_cheapest_sentences.nd rfl (Or.inl rfl) (pe_call (ok_first_of_each T) (hr.mono (by decide)) (by rfl) T.g_first_of_each T.k_first_of_each T.b_first_of_each .nil pass0 (pa_cons (pe_call (ok_whole_ways T) (hr.mono (by decide)) (by rfl) T.g_whole_ways T.k_whole_ways T.b_whole_ways .nil pass0 (pa_cons (pv 0) (pa_cons (pv 1) (pa_cons (pe_glob (v := .ref A.f_taken_and_words) rfl T.g_taken_and_words rfl) (pa_cons pe_non pa_nil))))) (pa_cons (pe_glob (v := .ref A.f_words_of) rfl T.g_words_of rfl) pa_nil)))) (pss_one (ps_ret (pe_slice sl_list (pe_callBK (cr_sortK (ok_order_of T) (hr.mono (by decide)) T.b_order_of) (by rfl) T.b_sorted (by decide +kernel) (pa_cons (pv 3) pa_nil) (pk_cons (pe_glob (v := .ref A.f_order_of) rfl T.g_order_of rfl) pk_nil)) po_none (po_some (pv 2)))))), ?_⟩
    refine ⟨_, rfl, _, rfl, am, pl, pd, sl, A.f_taken_and_words, .non, g, s', true, none, rfl, M, G, hs, ls, ⟨_, _, (ok_taken_and_words T).mono (by decide), T.k_taken_and_words, T.b_taken_and_words⟩, .inl ⟨rfl, rfl⟩, .inl rfl, fun H1 p us s1 _ hp all W few => ?_⟩
    refine ⟨p, A.f_words_of, kWords, us, rfl, ⟨_, _, (ok_words_of T).mono (by decide), T.k_words_of, T.b_words_of⟩, SqL.of hp, fun z hz => ⟨all z hz, ?_⟩, few, fun H2 q ms s2 _ hq kp => ?_⟩
    · obtain ⟨_, h1, _⟩ := W.snd z.2 (List.mem_map_of_mem hz)
      omega
    have allm : ∀ z ∈ ms, TrlAt A H2 z.1 z.2 := fun z hz => (all z (kp.sub z hz)).same s2
    have ndw : (ms.map fun m => m.2.words).Nodup := by
      have nd := kp.nd
      unfold List.Nodup at nd ⊢
      rw [List.pairwise_map] at nd ⊢
      refine nd.imp ?_
      intro a b h e
      apply h
      unfold kWords
      rw [e]
    have nda : (ms.map (·.1)).Nodup := by
      unfold List.Nodup at ndw ⊢
      rw [List.pairwise_map] at ndw ⊢
      refine List.Pairwise.imp_of_mem ?_ ndw
      intro a b ha hb h e
      have hb2 := allm b hb
      rw [← e] at hb2
      exact h ((allm a ha).inj hb2).2.2
    have kw : KeptW (us.map (·.2)) (ms.map (·.2)) := by
      refine ⟨fun u hu => ?_, fun t ht => ?_, ?_⟩
      · obtain ⟨m, hm, rfl⟩ := List.mem_map.mp hu
        exact List.mem_map_of_mem (kp.sub m hm)
      · obtain ⟨z, hz, rfl⟩ := List.mem_map.mp ht
        obtain ⟨m, hm, e1, e2⟩ := kp.all z hz
        exact ⟨m.2, List.mem_map_of_mem hm, kWords_words e1, e2⟩
      · rw [List.map_map]
        exact ndw
    -- sorted(ways, key=order_of)[:much]
    refine ⟨_, rfl, q, ms.map (·.1), keyOf ms, rfl, rfl, by rw [← refs_map]; exact SqL.of hq, keyD_of allm, fun H3 r s3 nr => ?_⟩
    obtain ⟨so1, so2⟩ := sort_ord (trOf ms) (ms.map (·.1))
    have ek : (fun b => ordD (trOf ms b).cost (trOf ms b).steps) = keyOf ms := rfl
    rw [ek] at so1 so2
    generalize (ms.map (·.1)).mergeSort (PySem.W.dataLe false (keyOf ms)) = bs at so1 so2
    have s34 := same_new (o := .lst (bs.map V.ref)) nr
    refine ⟨_, rfl, _, rfl, r, _, rfl, SqL.of upd_same, fun o no => ?_⟩
    rw [cut_first]
    have s45 := same_new (o := .lst ((bs.map V.ref).take n)) no
    have etr : (ms.map (·.1)).map (trOf ms) = ms.map (·.2) := by
      rw [List.map_map]
      exact List.map_congr_left fun z hz => trOf_eq nda z hz
    have perm : (bs.map (trOf ms)).Perm (ms.map (·.2)) := by
      rw [← etr]
      exact so1.map _
    have pw : (bs.map (trOf ms)).Pairwise fun a b => better a b := by
      rw [List.pairwise_map]
      exact so2
    have sent := sentences_sorted G.ph W kw perm pw
    have s5 := ((s1.trans s2).trans s3).trans (s34.trans s45)
    refine k _ o ((bs.take n).map fun b => (b, trOf ms b)) s5 ((((s1.trans s2).trans s3).trans s34).free no) ?_ (fun u hu => ?_) ?_
    · rw [upd_same]
      unfold refs
      rw [List.map_map, ← List.map_take]
      rfl
    · obtain ⟨b, hb, rfl⟩ := List.mem_map.mp hu
      have hb1 : b ∈ ms.map (·.1) := so1.mem_iff.mp (List.mem_of_mem_take hb)
      have hm := trOf_mem hb1
      obtain ⟨_, h1, h2⟩ := W.snd (trOf ms b) (kw.sub _ (List.mem_map.mpr ⟨_, hm, rfl⟩))
      exact ⟨(allm _ hm).same (s3.trans (s34.trans s45)), by show (trOf ms b).words.length ≤ 15; omega, by show (trOf ms b).steps.length ≤ 5; omega⟩
    · rw [sent, List.map_map, List.map_map, ← List.map_take]
      rfl
end
end Pw
set_option Elab.async false
set_option maxRecDepth 100000
set_option maxHeartbeats 4000000
namespace Pw
open PySem L2
theorem flat_get : ∀ {w : Ut09.Way} {j : Nat} {y : Ut09.Step}, w[j]? = some y → (flat w)[2 * j]? = some y.1 ∧ (flat w)[2 * j + 1]? = some y.2
  | [], j, y, h => by simp at h
  | x :: w, 0, y, h => by
    have : x = y := by simpa using h
    subst this
    exact ⟨rfl, rfl⟩
  | x :: w, j + 1, y, h => by
    obtain ⟨h1, h2⟩ := flat_get (w := w) (j := j) (y := y) (by simpa using h)
    have e : flat (x :: w) = x.1 :: x.2 :: flat w := rfl
    rw [e, show 2 * (j + 1) = 2 * j + 1 + 1 by omega]
    exact ⟨by simpa using h1, by simpa using h2⟩
theorem vN_at {l : List Nat} {i n : Nat} (h : l[i]? = some n) : (vN l)[i]? = some (V.int ((n : Nat) : Int)) := by
  unfold vN
  rw [List.getElem?_map, h]
  rfl
theorem rg_two (n : Nat) (h : n ≤ 5) : RgC 0 ((2 * n : Nat) : Int) 2 n := by
  have : n = 0 ∨ n = 1 ∨ n = 2 ∨ n = 3 ∨ n = 4 ∨ n = 5 := by omega
  rcases this with rfl | rfl | rfl | rfl | rfl | rfl <;> exact ⟨by decide, by decide, by decide +kernel, by decide +kernel⟩
section
variable {P : Program} {w : World} {K : PySem.W.Frag} {mg : Str → Option Value} {base : Heap} {A : Ad}
def sp_way_by_steps (K : PySem.W.Frag) (A : Ad) : Sp := fun vs H Q _ => ∃ (am pl pd sl stl : Addr) (g : Ut09.House) (s : List Nat) (wy : Ut09.Way), vs = [.ref am, .ref sl, .ref stl] ∧ MachAt A H am pl pd g ∧ GoodG g ∧ SqL K H sl (vN s) ∧ s.length ≤ 5 ∧ SqL K H stl (vN (flat wy)) ∧ wy.length ≤ 5 ∧
  ∀ H' v b, Same H H' → OptAt A H' v b → Ut09.wayCost g.prices g.phrases s wy = b.map (fun t => (t.cost, t.words)) → (∀ t, b = some t → t.words.length ≤ 1000) → Q v H'
theorem ok_way_by_steps (T : Txt K mg A) : FnOk P w K mg base CX0 4 A.f_way_by_steps A.d_way_by_steps ["machine", "sentence", "steps"] (sp_way_by_steps K A) := by
  refine T.F_way_by_steps.ok sc_way_by_steps (fun vs H Q E h => ?_) (fun cdv Ar outer s H vs Q E hr h => ?_)
  · obtain ⟨am, pl, pd, sl, stl, g, s, wy, rfl, _⟩ := h
    rfl
  · obtain ⟨am, pl, pd, sl, stl, g, s', wy, rfl, M, G, hs, ls, hst, lw, k⟩ := h
    refine ⟨_, (pss_cons (ps_if (pt_cmpR op_ne (pe_op op_mod (pe_callB call_len_seq (by rfl) T.b_len PySem.boot_len (pa_cons (pv 2) pa_nil)) pe_int) pe_int (nomark _)) (pss_one (ps_ret pe_non)) pss_nil) (pss_cons (ps_set (i := 3) sc_way_by_steps.nd rfl (Or.inl rfl) (pe_call0 (ok_beginning T) (hr.mono (by decide)) (by rfl) T.g_beginning T.k_beginning T.b_beginning .nil pass0)) (pss_cons (ps_for PassesOwn.never rfl (pi_range3 (by rfl) T.b_range (pa_cons pe_int (pa_cons (pe_callB call_len_seq (by rfl) T.b_len PySem.boot_len (pa_cons (pv 2) pa_nil)) (pa_cons pe_int pa_nil)))) (pg_name (i := 4) sc_way_by_steps.nd rfl (Or.inl rfl)) (pss_cons (ps_set (i := 5) sc_way_by_steps.nd rfl (Or.inl rfl) (pe_meth (pv 0) T.cl_Machine T.m_Machine_phrase_numbered (ok_Machine_phrase_numbered T) (hr.mono (by decide)) T.b_Machine_phrase_numbered .nil pass0 (pa_cons (pe_ix ix_list (pv 2) (pe_op op_add (pv 4) pe_int) (fun _ _ => rfl)) pa_nil))) (pss_cons (ps_if (PW.pt (pw_or (pt_cmpR op_isN (pv 5) pe_non (nomark _)) (pw_or1 (pt_not (pt_val (pe_call (ok_may_step T) (hr.mono (by decide)) (by rfl) T.g_may_step T.k_may_step T.b_may_step .nil pass0 (pa_cons (pv 0) (pa_cons (pv 1) (pa_cons (pv 3) (pa_cons (pe_ix ix_list (pv 2) (pv 4) (fun _ _ => rfl)) (pa_cons (pv 5) pa_nil))))))))))) (pss_one (ps_ret pe_non)) pss_nil) (pss_one (ps_set (i := 3) sc_way_by_steps.nd rfl (Or.inl rfl) (pe_call (ok_stepped T) (hr.mono (by decide)) (by rfl) T.g_stepped T.k_stepped T.b_stepped .nil pass0 (pa_cons (pv 0) (pa_cons (pv 3) (pa_cons (pe_ix ix_list (pv 2) (pv 4) (fun _ _ => rfl)) (pa_cons (pv 5) pa_nil)))))))))) (pss_one (ps_ret (pe_ifExp (pt_val (pe_call (ok_is_whole T) (hr.mono (by decide)) (by rfl) T.g_is_whole T.k_is_whole T.b_is_whole .nil pass0 (pa_cons (pv 1) (pa_cons (pv 3) pa_nil)))) (pe_call (ok_closed T) (hr.mono (by decide)) (by rfl) T.g_closed T.k_closed T.b_closed .nil pass0 (pa_cons (pv 0) (pa_cons (pv 3) pa_nil))) pe_non)))))), ?_⟩
    have lf : (vN (flat wy)).length = 2 * wy.length := by rw [vN_length, flat_length]
    -- if len(steps) % 2 != 0
    refine ⟨_, rfl, stl, _, rfl, .inl hst, _, _, rfl, rfl, (by show (0 : Int) < 2; decide), rfl, _, rfl, ?_⟩
    have e0 : ((((vN (flat wy)).length : Nat) : Int) % 2) = 0 := by rw [lf]; omega
    show if (!decide (V.int ((((vN (flat wy)).length : Nat) : Int) % 2) = V.int 0)) = true then _ else _
    rw [e0]
    refine iteF ?_
    -- trail = beginning()
    refine ⟨rfl, fun H1 p s1 st => ?_⟩
    have none : ∀ H', Same H H' → Ut09.wayCost g.prices g.phrases s' wy = none → Q .non H' := fun H' sm e => k H' .non none sm (.inl ⟨rfl, rfl⟩) e fun t h => by cases h
    -- for place in range(0, len(steps), 2)
    refine ⟨_, rfl, stl, _, rfl, .inl (s1.seq hst), 0, _, 2, wy.length, rfl, by rw [lf]; exact rg_two _ (by omega), for_rangeC (lo := 0) (c := 2) (n := wy.length) (fun j σ H' => ∃ (ta : Addr) (t : Tr) (v4 v5 : Option V), σ = [some (.ref am), some (.ref sl), some (.ref stl), some (.ref ta), v4, v5] ∧ Same H H' ∧ TrlAt A H' ta t ∧ TrOk g.prices g.phrases s' j t ∧ t.steps = wy.take j)
      ⟨p, start s', Option.none, Option.none, rfl, s1, (st s').mono fun _ _ => trivial, start_ok _ _ _, rfl⟩ ?_ ?_⟩
    · rintro j σ H2 hj ⟨ta, t, v4, v5, rfl, s2, B, O, et⟩
      have hy : wy[j]? = some wy[j] := List.getElem?_eq_getElem hj
      obtain ⟨f0, f1⟩ := flat_get hy
      have esplit : wy = t.steps ++ (wy[j].1, wy[j].2) :: wy.drop (j + 1) := by
        rw [et]
        conv => lhs; rw [← List.take_append_drop j wy, List.drop_eq_getElem_cons hj]
      have M2 := M.same s2
      obtain ⟨dm, hm⟩ := M2.ins
      have i1 : V.int ((0 : Int) + ((j : Nat) : Int) * 2 + 1) = V.int ((2 * j + 1 : Nat) : Int) := congrArg V.int (by omega)
      have i0 : V.int ((0 : Int) + ((j : Nat) : Int) * 2) = V.int ((2 * j : Nat) : Int) := congrArg V.int (by omega)
      -- phrase = machine.phrase_numbered(steps[place + 1])
      refine ⟨_, rfl, am, dm, _, rfl, hm, rfl, _, rfl, _, rfl, _, _, rfl, rfl, stl, _, _, _, rfl, i1, s2.seq hst, atI_nat (vN_at f1), am, pl, pd, g, wy[j].2, rfl, M2, fun vp hvp => ?_⟩
      -- if phrase is None or not may_step(..)
      refine ⟨_, rfl, rfl, _, rfl, ?_⟩
      rcases hvp with ⟨rfl, ep⟩ | ⟨pa, x, rfl, ep, X⟩
      · rw [decide_eq_true (rfl : V.non = V.non)]
        refine iteT (none H2 s2 ?_)
        rw [esplit]
        exact cost_no_phrase O ep
      · rw [decide_eq_false (show ¬ V.ref pa = V.non from fun q => by cases q)]
        refine iteF ?_
        obtain ⟨hx, _⟩ := phraseOf_mem ep
        obtain ⟨q1, q2, q3⟩ := G.srcs x hx
        refine ⟨_, rfl, _, rfl, _, rfl, _, rfl, _, rfl, stl, _, _, _, rfl, i0, s2.seq hst, atI_nat (vN_at f0), _, rfl, am, pl, pd, sl, ta, pa, g, s', t, wy[j].1, x, rfl, M2, s2.seq hs, B, X, O.fl, ls, q1, G.ph.src x hx, fun H3 s3 => ⟨_, rfl, ?_⟩⟩
        have s23 := s2.trans s3
        refine ite2 (fun c => ?_) (fun c => ?_)
        · refine none H3 s23 ?_
          rw [esplit]
          exact cost_no_may O ep (by simpa using c)
        · have c' : Ut09.may g.prices s' t.free t.ended wy[j].1 x = true := by simpa using c
          have e1 := may_end (G.ph.src x hx) c'
          have wl := O.wl
          have fc := O.fc
          -- trail = stepped(machine, trail, steps[place], phrase)
          refine ⟨_, rfl, _, rfl, _, rfl, _, rfl, stl, _, _, _, rfl, i0, s23.seq hst, atI_nat (vN_at f0), _, rfl, am, pl, pd, ta, pa, g, t, wy[j].1, x, rfl, M.same s23, G.jmp, B.same s3, X.same s3, by rw [O.fl]; exact e1, by rw [O.fl]; exact ls, by omega, by rw [O.len]; omega, q2, fun H4 r s4 N4 => ?_⟩
          refine ⟨r, stepped g.prices t wy[j].1 x, _, _, rfl, s23.trans s4, N4.mono fun _ _ => trivial, stepped_ok G.ph O hx c' q2, ?_⟩
          rw [take_more hy, ← et]
          show t.steps ++ [(wy[j].1, x.number)] = t.steps ++ [wy[j]]
          rw [(phraseOf_mem ep).2]
    · rintro σ H2 ⟨ta, t, v4, v5, rfl, s2, B, O, et⟩
      rw [List.take_length] at et
      have cd := cost_done O
      rw [et] at cd
      refine ⟨_, rfl, _, rfl, sl, ta, s', t, rfl, s2.seq hs, B, O.fl, ls, _, rfl, ?_⟩
      refine ite2 (fun c => ?_) (fun c => ?_)
      · rw [if_pos c] at cd
        refine ⟨_, rfl, _, rfl, fun _ => True, am, pl, pd, ta, g, t, rfl, M.same s2, B, fun _ _ => trivial, fun H3 r s3 C3 => ?_⟩
        refine k H3 (.ref r) (some (closed g.prices t)) (s2.trans s3) (.inr ⟨r, _, rfl, rfl, C3⟩) cd fun t' h => ?_
        cases h
        have := O.wl
        have := O.fc
        show t.words.length ≤ 1000
        omega
      · rw [if_neg c] at cd
        exact none H2 s2 cd
end
end Pw
set_option Elab.async false
set_option maxRecDepth 100000
set_option maxHeartbeats 4000000
namespace Pw
open PySem L2
section
variable {P : Program} {w : World} {K : PySem.W.Frag} {mg : Str → Option Value} {base : Heap} {A : Ad} {N : Addr → Prop}
/-- a new list is owed, the machine as it was -/
theorem owes_new {H H1 H2 : Hp} {am pl pd ar nl p : Addr} {g : Ut09.House} {ns : List Nat} {i : Nat} {c : Ut09.Call} {Q : VK} (D : Desk N K A H1 am pl pd g ar nl ns i) (s1 : SameBut [ar] H H1) (s2 : Same H1 H2) (hp : H1 p = none) (e : H2 p = some (.lst ((Ut09.step g c).2.map V.int))) (eg : (Ut09.step g c).1 = g) (k : OwesL N K A am pl pd g ar nl ns i H Q c) : Q (.ref p) H2 := by
  refine k H2 p pl ?_ (.inl rfl) ⟨let ⟨d, h⟩ := D.r.ins; ⟨d, s2 _ _ h⟩, s2.seq D.r.sq⟩ ((s1.mono (by simp)).trans (Same.but s2 _) (fun _ h => h)) (s1.keep _ hp) e
  rw [eg]
  exact D.m.same s2
theorem vN_ints (l : List Nat) : vN l = (Ut09.ints l).map V.int := by
  unfold vN Ut09.ints
  rw [List.map_map]
  rfl
def sp_counted : Sp := fun vs H Q _ => ∃ (a : Addr) (l : List Nat), vs = [.ref a] ∧ LstN H a l ∧ l.length ≤ 4000 ∧ ∀ H' p, Same H H' → H p = none → LstN H' p (l.length :: l) → Q (.ref p) H'
theorem ok_counted (T : Txt K mg A) : FnOk P w K mg base CX0 1 A.f_counted A.d_counted ["row"] (sp_counted) := by
  refine T.F_counted.ok sc_counted (fun vs H Q E h => ?_) (fun cdv Ar outer s H vs Q E hr h => ?_)
  · obtain ⟨a, l, rfl, _⟩ := h
    rfl
  · obtain ⟨a, l, rfl, hl, ll, k⟩ := h
    refine ⟨_, (pss_one (ps_ret (pe_op op_cat (pe_lst (pa_cons (pe_callB call_len_seq (by rfl) T.b_len PySem.boot_len (pa_cons (pv 0) pa_nil)) pa_nil)) (pv 0)))), ?_⟩
    refine ⟨_, rfl, a, _, rfl, .inl (LstN.sq hl), (by show 1 ≤ sizeLine; decide), fun p1 hp1 => ?_⟩
    rw [vN_length]
    have s1 := same_new (o := .lst [V.int ((l.length : Nat) : Int)]) hp1
    have h1 : LstN (upd H p1 (.lst [V.int ((l.length : Nat) : Int)])) p1 [l.length] := upd_same
    refine ⟨_, rfl, p1, a, _, _, rfl, rfl, h1, s1 _ _ hl, ?_, fun p2 hp2 => ?_⟩
    · rw [vN_length, vN_length]
      exact small_line (by show 1 + l.length ≤ 5000; omega)
    refine k _ p2 (s1.trans (same_new hp2)) (s1.free hp2) ?_
    unfold LstN
    rw [upd_same, ← vN_append]
    rfl
def sp_told_way (A : Ad) : Sp := fun vs H Q _ => ∃ (a : Addr) (t : Tr), vs = [.ref a] ∧ TrlAt A H a t ∧ t.words.length ≤ 1000 ∧ t.steps.length ≤ 1000 ∧ ∀ H' p, Same H H' → H p = none → LstN H' p (Ut09.foundRow (found t)) → Q (.ref p) H'
theorem ok_told_way (T : Txt K mg A) : FnOk P w K mg base CX0 2 A.f_told_way A.d_told_way ["way"] (sp_told_way A) := by
  refine T.F_told_way.ok sc_told_way (fun vs H Q E h => ?_) (fun cdv Ar outer s H vs Q E hr h => ?_)
  · obtain ⟨a, t, rfl, _⟩ := h
    rfl
  · obtain ⟨a, t, rfl, B, l1, l2, k⟩ := h
    refine ⟨_, (pss_one (ps_ret (pe_op op_cat (pe_op op_cat (pe_lst (pa_cons (pe_fld (pv 0) rfl) (pa_cons (pe_op op_fdiv (pe_callB call_len_seq (by rfl) T.b_len PySem.boot_len (pa_cons (pe_fld (pv 0) rfl) pa_nil)) pe_int) pa_nil))) (pe_fld (pv 0) rfl)) (pe_call (ok_counted T) (hr.mono (by decide)) (by rfl) T.g_counted T.k_counted T.b_counted .nil pass0 (pa_cons (pe_fld (pv 0) rfl) pa_nil))))), ?_⟩
    obtain ⟨dt, u, v, _, _, _, e1, e2, e3⟩ := id B
    refine ⟨_, rfl, a, _, dt, _, _, rfl, e1, T.cl_Trail, T.n_Trail_cost, rfl, _, rfl, a, _, dt, _, _, rfl, e1, T.cl_Trail, T.n_Trail_steps, rfl, u, _, rfl, .inl (LstN.sq e2), _, _, rfl, rfl, ⟨by decide, by decide⟩, (by show 2 ≤ sizeLine; decide), fun p1 hp1 => ?_⟩
    have el : (((vN (flat t.steps)).length : Nat) : Int) / 2 = ((t.steps.length : Nat) : Int) := by
      rw [vN_length, flat_length]
      omega
    have new : ∀ {H : Hp} {p : Addr}, H p = none → ∀ o, Same H (upd H p o) := fun h o => same_new h
    have h1 : LstN (upd H p1 (.lst [V.int ((t.cost : Nat) : Int), V.int ((((vN (flat t.steps)).length : Nat) : Int) / 2)])) p1 [t.cost, t.steps.length] := by
      unfold LstN
      rw [upd_same, el]
      rfl
    have s1 := new hp1 (.lst [V.int ((t.cost : Nat) : Int), V.int ((((vN (flat t.steps)).length : Nat) : Int) / 2)])
    show tFld K (tVar 0) "steps" [some (V.ref a)] (upd H p1 (.lst [V.int ((t.cost : Nat) : Int), V.int ((((vN (flat t.steps)).length : Nat) : Int) / 2)])) _
    generalize upd H p1 (.lst [V.int ((t.cost : Nat) : Int), V.int ((((vN (flat t.steps)).length : Nat) : Int) / 2)]) = H1 at h1 s1
    have lf : (flat t.steps).length ≤ 2000 := by rw [flat_length]; omega
    refine ⟨_, rfl, a, _, dt, _, _, rfl, s1 _ _ e1, T.cl_Trail, T.n_Trail_steps, rfl, p1, u, _, _, rfl, rfl, h1, s1 _ _ e2, ?_, fun p2 hp2 => ?_⟩
    · rw [vN_length, vN_length]
      exact small_line (by show 2 + (flat t.steps).length ≤ 5000; omega)
    have s2 := s1.trans (new hp2 (.lst (vN [t.cost, t.steps.length] ++ vN (flat t.steps))))
    have h2 : LstN (upd H1 p2 (.lst (vN [t.cost, t.steps.length] ++ vN (flat t.steps)))) p2 ([t.cost, t.steps.length] ++ flat t.steps) := by
      unfold LstN
      rw [upd_same, vN_append]
    generalize upd H1 p2 (.lst (vN [t.cost, t.steps.length] ++ vN (flat t.steps))) = H2 at h2 s2
    refine ⟨_, rfl, a, _, dt, _, _, rfl, s2 _ _ e1, T.cl_Trail, T.n_Trail_words, rfl, v, t.words, rfl, s2 _ _ e3, by omega, fun H3 p3 s3 hp3 h3 => ?_⟩
    refine ⟨p2, p3, _, _, rfl, rfl, h2.same s3, h3, ?_, fun p4 hp4 => ?_⟩
    · rw [vN_length, vN_length, List.length_append]
      exact small_line (by show 2 + (flat t.steps).length + (t.words.length + 1) ≤ 5000; omega)
    have s23 := s2.trans s3
    refine k _ p4 (s23.trans (new hp4 _)) (s23.free hp4) ?_
    unfold LstN
    rw [upd_same, ← vN_append]
    rfl
def sp_told_way_if_any (A : Ad) : Sp := fun vs H Q _ => ∃ (v : V) (b : Option Tr), vs = [v] ∧ OptAt A H v b ∧ (∀ t, b = some t → t.words.length ≤ 1000 ∧ t.steps.length ≤ 1000) ∧ ∀ H' p, Same H H' → H p = none → H' p = some (.lst ((Ut09.told (b.map found)).map V.int)) → Q (.ref p) H'
theorem ok_told_way_if_any (T : Txt K mg A) : FnOk P w K mg base CX0 3 A.f_told_way_if_any A.d_told_way_if_any ["way"] (sp_told_way_if_any A) := by
  refine T.F_told_way_if_any.ok sc_told_way_if_any (fun vs H Q E h => ?_) (fun cdv Ar outer s H vs Q E hr h => ?_)
  · obtain ⟨v, b, rfl, _⟩ := h
    rfl
  · obtain ⟨v, b, rfl, ob, sm, k⟩ := h
    refine ⟨_, (pss_cons (ps_if (pt_cmpR op_isN (pv 0) pe_non (nomark _)) (pss_one (ps_ret (pe_lst (pa_cons (pe_glob (v := .int (-6)) rfl T.g_NO_WAY ⟨_, rfl⟩) pa_nil)))) pss_nil) (pss_one (ps_ret (pe_call (ok_told_way T) (hr.mono (by decide)) (by rfl) T.g_told_way T.k_told_way T.b_told_way .nil pass0 (pa_cons (pv 0) pa_nil))))), ?_⟩
    refine ⟨_, rfl, rfl, _, rfl, ?_⟩
    rcases ob with ⟨rfl, rfl⟩ | ⟨ab, tb, rfl, rfl, B⟩
    · rw [decide_eq_true (rfl : V.non = V.non)]
      exact iteT ⟨by show 1 ≤ sizeLine; decide, fun p hp => k _ p (same_new hp) hp upd_same⟩
    · rw [decide_eq_false (show ¬ V.ref ab = V.non from fun q => by cases q)]
      refine iteF ?_
      obtain ⟨m1, m2⟩ := sm tb rfl
      refine ⟨_, rfl, ab, tb, rfl, B, m1, m2, fun H1 p s1 np hp => k H1 p s1 np ?_⟩
      show H1 p = some (.lst ((Ut09.ints (Ut09.foundRow (found tb))).map V.int))
      rw [← vN_ints]
      exact hp
/-- [number] -/
theorem one_new {H H1 H2 : Hp} {am pl pd ar nl : Addr} {g : Ut09.House} {ns : List Nat} {i : Nat} {c : Ut09.Call} {Q : VK} (D : Desk N K A H1 am pl pd g ar nl ns i) (s1 : SameBut [ar] H H1) (eg : (Ut09.step g c).1 = g) (k : OwesL N K A am pl pd g ar nl ns i H Q c) (z : Int) (s2 : Same H1 H2) (e : (Ut09.step g c).2 = [z]) :
    [V.int z].length ≤ sizeLine ∧ ∀ p, H2 p = none → Q (.ref p) (upd H2 p (.lst [V.int z])) := by
  refine ⟨by show 1 ≤ sizeLine; decide, fun p hp => owes_new D s1 (s2.trans (same_new hp)) (s2.free hp) ?_ eg k⟩
  rw [e, upd_same]
  rfl
def sp_answer_translate (K : PySem.W.Frag) (A : Ad) : Sp := fun vs H Q _ => ∃ (N : Addr → Prop) (am pl pd ar nl : Addr) (g : Ut09.House) (ns : List Nat) (i : Nat) (s rest : List Nat), vs = [.ref am, .ref ar] ∧ Desk N K A H am pl pd g ar nl ns i ∧ ns.drop i = s.length :: (s ++ rest) ∧ s.length ≤ 1000 ∧ OwesL N K A am pl pd g ar nl ns (i + 1 + s.length) H Q (.translate s)
theorem ok_answer_translate (T : Txt K mg A) : FnOk P w K mg base CX0 7 A.f_answer_translate A.d_answer_translate ["machine", "reader"] (sp_answer_translate K A) := by
  refine T.F_answer_translate.ok sc_answer_translate (fun vs H Q E h => ?_) (fun cdv Ar outer s H vs Q E hr h => ?_)
  · obtain ⟨N, am, pl, pd, ar, nl, g, ns, i, s, rest, rfl, _⟩ := h
    rfl
  · obtain ⟨N, am, pl, pd, ar, nl, g, ns, i, s', rest, rfl, D, hd, ls, k⟩ := h
    refine ⟨_, (pss_cons (ps_set (i := 2) sc_answer_translate.nd rfl (Or.inl rfl) (pe_meth0 (pv 1) T.cl_Reader T.m_Reader_take_row (ok_Reader_take_row T) (hr.mono (by decide)) T.b_Reader_take_row .nil pass0)) (pss_cons (ps_if (pt_not (pt_val (pe_call (ok_is_sentence T) (hr.mono (by decide)) (by rfl) T.g_is_sentence T.k_is_sentence T.b_is_sentence .nil pass0 (pa_cons (pv 2) (pa_cons (pe_glob (v := .int (5)) rfl T.g_LONGEST_SENTENCE ⟨_, rfl⟩) pa_nil))))) (pss_one (ps_ret (pe_lst (pa_cons (pe_glob (v := .int (-1)) rfl T.g_WRONG ⟨_, rfl⟩) pa_nil)))) pss_nil) (pss_one (ps_ret (pe_call (ok_told_way_if_any T) (hr.mono (by decide)) (by rfl) T.g_told_way_if_any T.k_told_way_if_any T.b_told_way_if_any .nil pass0 (pa_cons (pe_call (ok_cheapest_way T) (hr.mono (by decide)) (by rfl) T.g_cheapest_way T.k_cheapest_way T.b_cheapest_way .nil pass0 (pa_cons (pv 0) (pa_cons (pv 2) pa_nil))) pa_nil)))))), ?_⟩
    obtain ⟨dr, hr0⟩ := D.r.ins
    refine ⟨_, rfl, ar, dr, _, rfl, hr0, rfl, ar, nl, ns, i, s', rest, rfl, D.r, hd, fun H1 u R1 s1 hu lu => ?_⟩
    have D1 := D.go R1 s1
    have eg : (Ut09.step g (.translate s')).1 = g := rfl
    refine ⟨_, rfl, u, s', 5, rfl, LstN.sq lu, ls, fun H2 s2 => ⟨_, rfl, ?_⟩⟩
    refine ite2 (fun c => ?_) (fun c => ?_)
    · have e : Ut09.sentOk 5 s' = false := by simpa using c
      exact one_new D1 s1 eg k (-1) s2 (by simp only [Ut09.step, if_pos e])
    · have e : Ut09.sentOk 5 s' = true := by simpa using c
      have l5 : s'.length ≤ 5 := by
        rw [sentOk_words, Bool.and_eq_true, decide_eq_true_eq] at e
        exact e.1
      have good : (Ut09.step g (.translate s')).2 = Ut09.told (Ut09.translate g.prices g.phrases s' none) := by
        simp only [Ut09.step, if_neg (show ¬ Ut09.sentOk 5 s' = false by rw [e]; decide)]
      refine ⟨_, rfl, _, rfl, am, pl, pd, u, g, s', rfl, (D1.m.same s2).any, D1.g, s2.seq (LstN.sq lu), l5, fun H3 v b s3 ob tr sm => ?_⟩
      have s13 := s2.trans s3
      refine ⟨v, b, rfl, ob, sm, fun H4 p s4 np hp => owes_new D1 s1 (s13.trans s4) (s13.free np) ?_ eg k⟩
      rw [good, tr]
      exact hp
def sp_answer_force (K : PySem.W.Frag) (A : Ad) : Sp := fun vs H Q _ => ∃ (N : Addr → Prop) (am pl pd ar nl : Addr) (g : Ut09.House) (ns : List Nat) (i : Nat) (s t rest : List Nat), vs = [.ref am, .ref ar] ∧ Desk N K A H am pl pd g ar nl ns i ∧ ns.drop i = s.length :: (s ++ t.length :: (t ++ rest)) ∧ s.length ≤ 1000 ∧ t.length ≤ 1000 ∧ OwesL N K A am pl pd g ar nl ns (i + 1 + s.length + 1 + t.length) H Q (.force s t)
theorem drop_row {ns r rest : List Nat} {i : Nat} (h : ns.drop i = r.length :: (r ++ rest)) : ns.drop (i + 1 + r.length) = rest := by
  obtain ⟨_, d⟩ := drop_get h
  rw [← List.drop_drop, d, List.drop_left]
theorem ok_answer_force (T : Txt K mg A) : FnOk P w K mg base CX0 7 A.f_answer_force A.d_answer_force ["machine", "reader"] (sp_answer_force K A) := by
  refine T.F_answer_force.ok sc_answer_force (fun vs H Q E h => ?_) (fun cdv Ar outer s H vs Q E hr h => ?_)
  · obtain ⟨N, am, pl, pd, ar, nl, g, ns, i, s, t, rest, rfl, _⟩ := h
    rfl
  · obtain ⟨N, am, pl, pd, ar, nl, g, ns, i, s', t', rest, rfl, D, hd, ls, lt, k⟩ := h
    refine ⟨_, (pss_cons (ps_set (i := 2) sc_answer_force.nd rfl (Or.inl rfl) (pe_meth0 (pv 1) T.cl_Reader T.m_Reader_take_row (ok_Reader_take_row T) (hr.mono (by decide)) T.b_Reader_take_row .nil pass0)) (pss_cons (ps_set (i := 3) sc_answer_force.nd rfl (Or.inl rfl) (pe_meth0 (pv 1) T.cl_Reader T.m_Reader_take_row (ok_Reader_take_row T) (hr.mono (by decide)) T.b_Reader_take_row .nil pass0)) (pss_cons (ps_if (PW.pt (pw_or (pt_not (pt_val (pe_call (ok_is_sentence T) (hr.mono (by decide)) (by rfl) T.g_is_sentence T.k_is_sentence T.b_is_sentence .nil pass0 (pa_cons (pv 2) (pa_cons (pe_glob (v := .int (5)) rfl T.g_LONGEST_SENTENCE ⟨_, rfl⟩) pa_nil))))) (pw_or1 (pt_not (pt_val (pe_call (ok_is_sentence T) (hr.mono (by decide)) (by rfl) T.g_is_sentence T.k_is_sentence T.b_is_sentence .nil pass0 (pa_cons (pv 3) (pa_cons (pe_glob (v := .int (15)) rfl T.g_LONGEST_SAID ⟨_, rfl⟩) pa_nil)))))))) (pss_one (ps_ret (pe_lst (pa_cons (pe_glob (v := .int (-1)) rfl T.g_WRONG ⟨_, rfl⟩) pa_nil)))) pss_nil) (pss_one (ps_ret (pe_call (ok_told_way_if_any T) (hr.mono (by decide)) (by rfl) T.g_told_way_if_any T.k_told_way_if_any T.b_told_way_if_any .nil pass0 (pa_cons (pe_call (ok_cheapest_way_to_say T) (hr.mono (by decide)) (by rfl) T.g_cheapest_way_to_say T.k_cheapest_way_to_say T.b_cheapest_way_to_say .nil pass0 (pa_cons (pv 0) (pa_cons (pv 2) (pa_cons (pv 3) pa_nil)))) pa_nil))))))), ?_⟩
    obtain ⟨dr, hr0⟩ := D.r.ins
    refine ⟨_, rfl, ar, dr, _, rfl, hr0, rfl, ar, nl, ns, i, s', _, rfl, D.r, hd, fun H1 u R1 s1 hu lu => ?_⟩
    obtain ⟨dr1, hr1⟩ := R1.ins
    refine ⟨_, rfl, ar, dr1, _, rfl, hr1, rfl, ar, nl, ns, i + 1 + s'.length, t', rest, rfl, R1, drop_row hd, fun H2 q R2 s2 hq lq => ?_⟩
    have s12 := s1.trans s2 (fun _ h => h)
    have D2 := D.go R2 s12
    have nur : u ≠ ar := fun z => by rw [z, hr0] at hu; cases hu
    have lu2 : LstN H2 u s' := s2.at_ _ _ lu (by simp [nur])
    have eg : (Ut09.step g (.force s' t')).1 = g := rfl
    have bad : (Ut09.sentOk 5 s' = false ∨ Ut09.sentOk 15 t' = false) → (Ut09.step g (.force s' t')).2 = [-1] := fun e => by simp only [Ut09.step, if_pos e]
    refine ⟨_, rfl, u, s', 5, rfl, LstN.sq lu2, ls, fun H3 s3 => ⟨_, rfl, ?_⟩⟩
    refine ite2 (fun c => one_new D2 s12 eg k (-1) s3 (bad (.inl (by simpa using c)))) (fun c => ?_)
    have e5 : Ut09.sentOk 5 s' = true := by simpa using c
    refine ⟨_, rfl, q, t', 15, rfl, s3.seq (LstN.sq lq), lt, fun H4 s4 => ⟨_, rfl, ?_⟩⟩
    have s34 := s3.trans s4
    refine ite2 (fun c => one_new D2 s12 eg k (-1) s34 (bad (.inr (by simpa using c)))) (fun c => ?_)
    have e15 : Ut09.sentOk 15 t' = true := by simpa using c
    have l5 : s'.length ≤ 5 := by
      rw [sentOk_words, Bool.and_eq_true, decide_eq_true_eq] at e5
      exact e5.1
    have good : (Ut09.step g (.force s' t')).2 = Ut09.told (Ut09.translate g.prices g.phrases s' (some t')) := by
      have n : ¬ (Ut09.sentOk 5 s' = false ∨ Ut09.sentOk 15 t' = false) := by
        rw [e5, e15]
        decide
      simp only [Ut09.step, if_neg n]
    refine ⟨_, rfl, _, rfl, _, rfl, am, pl, pd, u, q, g, s', t', rfl, (D2.m.same s34).any, D2.g, s34.seq (LstN.sq lu2), l5, s34.seq (LstN.sq lq), fun H5 v b s5 ob tr sm => ?_⟩
    have s35 := s34.trans s5
    refine ⟨v, b, rfl, ob, sm, fun H6 p s6 np hp => owes_new D2 s12 (s35.trans s6) (s35.free np) ?_ eg k⟩
    rw [good, tr]
    exact hp
theorem pairs_flat : ∀ {l : List Nat} {w : Ut09.Way}, Ut09Neutral.pairsIn l = some w → l = flat w
  | [], w, h => by
    have : w = [] := by simpa [Ut09Neutral.pairsIn] using h.symm
    subst this
    rfl
  | [a], w, h => by simp [Ut09Neutral.pairsIn] at h
  | a :: b :: l, w, h => by
    have h' : (Ut09Neutral.pairsIn l).map (fun r => (a, b) :: r) = some w := by simpa [Ut09Neutral.pairsIn] using h
    rw [Option.map_eq_some_iff] at h'
    obtain ⟨r, h1, rfl⟩ := h'
    rw [pairs_flat h1]
    rfl
def sp_answer_cost (K : PySem.W.Frag) (A : Ad) : Sp := fun vs H Q _ => ∃ (N : Addr → Prop) (am pl pd ar nl : Addr) (g : Ut09.House) (ns : List Nat) (i : Nat) (s : List Nat) (wy : Ut09.Way) (rest : List Nat), vs = [.ref am, .ref ar] ∧ Desk N K A H am pl pd g ar nl ns i ∧ ns.drop i = s.length :: (s ++ (flat wy).length :: (flat wy ++ rest)) ∧ s.length ≤ 1000 ∧ OwesL N K A am pl pd g ar nl ns (i + 1 + s.length + 1 + (flat wy).length) H Q (.cost s wy)
theorem ok_answer_cost (T : Txt K mg A) : FnOk P w K mg base CX0 5 A.f_answer_cost A.d_answer_cost ["machine", "reader"] (sp_answer_cost K A) := by
  refine T.F_answer_cost.ok sc_answer_cost (fun vs H Q E h => ?_) (fun cdv Ar outer s H vs Q E hr h => ?_)
  · obtain ⟨N, am, pl, pd, ar, nl, g, ns, i, s, wy, rest, rfl, _⟩ := h
    rfl
  · obtain ⟨N, am, pl, pd, ar, nl, g, ns, i, s', wy, rest, rfl, D, hd, ls, k⟩ := h
    refine ⟨_, (pss_cons (ps_set (i := 2) sc_answer_cost.nd rfl (Or.inl rfl) (pe_meth0 (pv 1) T.cl_Reader T.m_Reader_take_row (ok_Reader_take_row T) (hr.mono (by decide)) T.b_Reader_take_row .nil pass0)) (pss_cons (ps_set (i := 3) sc_answer_cost.nd rfl (Or.inl rfl) (pe_meth0 (pv 1) T.cl_Reader T.m_Reader_take_row (ok_Reader_take_row T) (hr.mono (by decide)) T.b_Reader_take_row .nil pass0)) (pss_cons (ps_if (PW.pt (pw_or (pt_not (pt_val (pe_call (ok_is_sentence T) (hr.mono (by decide)) (by rfl) T.g_is_sentence T.k_is_sentence T.b_is_sentence .nil pass0 (pa_cons (pv 2) (pa_cons (pe_glob (v := .int (5)) rfl T.g_LONGEST_SENTENCE ⟨_, rfl⟩) pa_nil))))) (pw_or1 (pt_cmpR op_gt (pe_callB call_len_seq (by rfl) T.b_len PySem.boot_len (pa_cons (pv 3) pa_nil)) (pe_op op_mul pe_int (pe_glob (v := .int (5)) rfl T.g_MOST_STEPS ⟨_, rfl⟩)) (nomark _))))) (pss_one (ps_ret (pe_lst (pa_cons (pe_glob (v := .int (-1)) rfl T.g_WRONG ⟨_, rfl⟩) pa_nil)))) pss_nil) (pss_cons (ps_set (i := 4) sc_answer_cost.nd rfl (Or.inl rfl) (pe_call (ok_way_by_steps T) (hr.mono (by decide)) (by rfl) T.g_way_by_steps T.k_way_by_steps T.b_way_by_steps .nil pass0 (pa_cons (pv 0) (pa_cons (pv 2) (pa_cons (pv 3) pa_nil))))) (pss_cons (ps_if (pt_cmpR op_isN (pv 4) pe_non (nomark _)) (pss_one (ps_ret (pe_lst (pa_cons (pe_glob (v := .int (-6)) rfl T.g_NO_WAY ⟨_, rfl⟩) pa_nil)))) pss_nil) (pss_one (ps_ret (pe_op op_cat (pe_lst (pa_cons (pe_fld (pv 4) rfl) pa_nil)) (pe_call (ok_counted T) (hr.mono (by decide)) (by rfl) T.g_counted T.k_counted T.b_counted .nil pass0 (pa_cons (pe_fld (pv 4) rfl) pa_nil)))))))))), ?_⟩
    obtain ⟨dr, hr0⟩ := D.r.ins
    refine ⟨_, rfl, ar, dr, _, rfl, hr0, rfl, ar, nl, ns, i, s', _, rfl, D.r, hd, fun H1 u R1 s1 hu lu => ?_⟩
    obtain ⟨dr1, hr1⟩ := R1.ins
    refine ⟨_, rfl, ar, dr1, _, rfl, hr1, rfl, ar, nl, ns, i + 1 + s'.length, flat wy, rest, rfl, R1, drop_row hd, fun H2 q R2 s2 hq lq => ?_⟩
    have s12 := s1.trans s2 (fun _ h => h)
    have D2 := D.go R2 s12
    have nur : u ≠ ar := fun z => by rw [z, hr0] at hu; cases hu
    have lu2 : LstN H2 u s' := s2.at_ _ _ lu (by simp [nur])
    have eg : (Ut09.step g (.cost s' wy)).1 = g := rfl
    have bad : (Ut09.sentOk 5 s' = false ∨ 5 < wy.length) → (Ut09.step g (.cost s' wy)).2 = [-1] := fun e => by simp only [Ut09.step, if_pos e]
    refine ⟨_, rfl, u, s', 5, rfl, LstN.sq lu2, ls, fun H3 s3 => ⟨_, rfl, ?_⟩⟩
    refine ite2 (fun c => one_new D2 s12 eg k (-1) s3 (bad (.inl (by simpa using c)))) (fun c => ?_)
    have e5 : Ut09.sentOk 5 s' = true := by simpa using c
    refine ⟨_, rfl, q, _, rfl, .inl (s3.seq (LstN.sq lq)), _, _, rfl, rfl, .inl ⟨by decide, by decide⟩, _, _, rfl, rfl, _, rfl, ?_⟩
    have lf : (vN (flat wy)).length = 2 * wy.length := by rw [vN_length, flat_length]
    refine ite2 (fun c => one_new D2 s12 eg k (-1) s3 (bad (.inr ?_))) (fun c => ?_)
    · have := of_decide_eq_true c
      rw [lf] at this
      omega
    have lw : wy.length ≤ 5 := by
      have : ¬ (2 * 5 : Int) < (((vN (flat wy)).length : Nat) : Int) := fun z => c (decide_eq_true z)
      rw [lf] at this
      omega
    have l5 : s'.length ≤ 5 := by
      rw [sentOk_words, Bool.and_eq_true, decide_eq_true_eq] at e5
      exact e5.1
    have good : (Ut09.step g (.cost s' wy)).2 = match Ut09.wayCost g.prices g.phrases s' wy with
        | none => [-6]
        | some x => Ut09.ints (x.1 :: x.2.length :: x.2) := by
      have n : ¬ (Ut09.sentOk 5 s' = false ∨ 5 < wy.length) := by
        rintro (z | z)
        · rw [e5] at z
          cases z
        · omega
      exact if_neg n
    refine ⟨_, rfl, _, rfl, _, rfl, am, pl, pd, u, q, g, s', wy, rfl, (D2.m.same s3).any, D2.g, s3.seq (LstN.sq lu2), l5, s3.seq (LstN.sq lq), lw, fun H4 v b s4 ob wc sm => ?_⟩
    have s34 := s3.trans s4
    refine ⟨_, rfl, rfl, _, rfl, ?_⟩
    rcases ob with ⟨rfl, rfl⟩ | ⟨ab, tb, rfl, rfl, B⟩
    · rw [decide_eq_true (rfl : V.non = V.non)]
      refine iteT (one_new D2 s12 eg k (-6) s34 ?_)
      rw [good, wc]
      rfl
    · rw [decide_eq_false (show ¬ V.ref ab = V.non from fun q => by cases q)]
      refine iteF ?_
      obtain ⟨dt, ul, wl, _, _, _, e1, e2, e3⟩ := id B
      have lwb := sm tb rfl
      refine ⟨_, rfl, ab, _, dt, _, _, rfl, e1, T.cl_Trail, T.n_Trail_cost, rfl, (by show 1 ≤ sizeLine; decide), fun p1 hp1 => ?_⟩
      have n1 := same_new (o := .lst [V.int ((tb.cost : Nat) : Int)]) hp1
      have h1 : LstN (upd H4 p1 (.lst [V.int ((tb.cost : Nat) : Int)])) p1 [tb.cost] := upd_same
      generalize upd H4 p1 (.lst [V.int ((tb.cost : Nat) : Int)]) = H5 at n1 h1
      refine ⟨_, rfl, ab, _, dt, _, _, rfl, n1 _ _ e1, T.cl_Trail, T.n_Trail_words, rfl, wl, tb.words, rfl, n1 _ _ e3, by omega, fun H6 p2 s6 hp2 h2 => ?_⟩
      refine ⟨p1, p2, _, _, rfl, rfl, h1.same s6, h2, ?_, fun p3 hp3 => ?_⟩
      · rw [vN_length, vN_length]
        exact small_line (by show 1 + (tb.words.length + 1) ≤ 5000; omega)
      have s46 := (s34.trans n1).trans s6
      refine owes_new D2 s12 (s46.trans (same_new hp3)) (s46.free hp3) ?_ eg k
      rw [upd_same, good, wc, ← vN_append]
      show _ = some (HO.lst ((Ut09.ints (tb.cost :: tb.words.length :: tb.words)).map V.int))
      rw [← vN_ints]
      rfl
end
end Pw
set_option Elab.async false
set_option maxRecDepth 100000
set_option maxHeartbeats 4000000
namespace Pw
open PySem L2
section
variable {P : Program} {w : World} {K : PySem.W.Frag} {mg : Str → Option Value} {base : Heap} {A : Ad} {N : Addr → Prop}
theorem foundRow_length (x : Ut09.Found) : (Ut09.foundRow x).length = 3 + 2 * x.2.1.length + x.2.2.length := by
  have e : (x.2.1.flatMap fun y => [y.1, y.2]).length = 2 * x.2.1.length := flat_length x.2.1
  unfold Ut09.foundRow
  rw [List.length_append, List.length_append, e]
  simp only [List.length_cons, List.length_nil]
  omega
theorem rows_length : ∀ (us : List (Addr × Tr)), (∀ u ∈ us, u.2.words.length ≤ 15 ∧ u.2.steps.length ≤ 5) → (us.flatMap fun u => Ut09.foundRow (found u.2)).length ≤ 28 * us.length
  | [], _ => by simp
  | u :: us, h => by
    have ih := rows_length us fun v hv => h v (List.mem_cons_of_mem _ hv)
    obtain ⟨h1, h2⟩ := h u List.mem_cons_self
    rw [List.flatMap_cons, List.length_append, foundRow_length, List.length_cons]
    show 3 + 2 * u.2.steps.length + u.2.words.length + _ ≤ _
    omega
theorem flatMap_take_more {α β : Type} {l : List α} {f : α → List β} {i : Nat} {x : α} (h : l[i]? = some x) : (l.take (i + 1)).flatMap f = (l.take i).flatMap f ++ f x := by
  rw [take_more h, List.flatMap_append]
  simp
def sp_answer_some (K : PySem.W.Frag) (A : Ad) : Sp := fun vs H Q _ => ∃ (N : Addr → Prop) (am pl pd ar nl : Addr) (g : Ut09.House) (ns : List Nat) (i n : Nat) (s rest : List Nat), vs = [.ref am, .ref ar] ∧ Desk N K A H am pl pd g ar nl ns i ∧ ns.drop i = n :: s.length :: (s ++ rest) ∧ s.length ≤ 1000 ∧ OwesL N K A am pl pd g ar nl ns (i + 1 + 1 + s.length) H Q (.some_ n s)
theorem ok_answer_some (T : Txt K mg A) : FnOk P w K mg base CX0 7 A.f_answer_some A.d_answer_some ["machine", "reader"] (sp_answer_some K A) := by
  refine T.F_answer_some.ok sc_answer_some (fun vs H Q E h => ?_) (fun cdv Ar outer s H vs Q E hr h => ?_)
  · obtain ⟨N, am, pl, pd, ar, nl, g, ns, i, n, s, rest, rfl, _⟩ := h
    rfl
  · obtain ⟨N, am, pl, pd, ar, nl, g, ns, i, n, s', rest, rfl, D, hd, ls, k⟩ := h
    refine ⟨_, (pss_cons (ps_set (i := 2) sc_answer_some.nd rfl (Or.inl rfl) (pe_meth0 (pv 1) T.cl_Reader T.m_Reader_take (ok_Reader_take T) (hr.mono (by decide)) T.b_Reader_take .nil pass0)) (pss_cons (ps_set (i := 3) sc_answer_some.nd rfl (Or.inl rfl) (pe_meth0 (pv 1) T.cl_Reader T.m_Reader_take_row (ok_Reader_take_row T) (hr.mono (by decide)) T.b_Reader_take_row .nil pass0)) (pss_cons (ps_if (PW.pt (pw_or (pt_not (pt_chain op_le op_le pe_int (pv 2) (pe_glob (v := .int (5)) rfl T.g_MOST_SENTENCES ⟨_, rfl⟩))) (pw_or1 (pt_not (pt_val (pe_call (ok_is_sentence T) (hr.mono (by decide)) (by rfl) T.g_is_sentence T.k_is_sentence T.b_is_sentence .nil pass0 (pa_cons (pv 3) (pa_cons (pe_glob (v := .int (3)) rfl T.g_LONGEST_FOR_SOME ⟨_, rfl⟩) pa_nil)))))))) (pss_one (ps_ret (pe_lst (pa_cons (pe_glob (v := .int (-1)) rfl T.g_WRONG ⟨_, rfl⟩) pa_nil)))) pss_nil) (pss_cons (ps_set (i := 4) sc_answer_some.nd rfl (Or.inl rfl) (pe_call (ok_cheapest_sentences T) (hr.mono (by decide)) (by rfl) T.g_cheapest_sentences T.k_cheapest_sentences T.b_cheapest_sentences .nil pass0 (pa_cons (pv 0) (pa_cons (pv 3) (pa_cons (pv 2) pa_nil))))) (pss_cons (ps_set (i := 5) sc_answer_some.nd rfl (Or.inl rfl) (pe_lst (pa_cons (pe_callB call_len_seq (by rfl) T.b_len PySem.boot_len (pa_cons (pv 4) pa_nil)) pa_nil))) (pss_cons (ps_for PassesOwn.never rfl (pi_list (pv 4)) (pg_name (i := 6) sc_answer_some.nd rfl (Or.inl rfl)) (pss_one (ps_expr (pe_bm PySem.F.plainAttrs_list PySem.F.slot_list_extend PySem.F.type_list_extend mt_extend (pv 5) (pa_cons (pe_call (ok_told_way T) (hr.mono (by decide)) (by rfl) T.g_told_way T.k_told_way T.b_told_way .nil pass0 (pa_cons (pv 6) pa_nil)) pa_nil))))) (pss_one (ps_ret (pv 5))))))))), ?_⟩
    obtain ⟨dr, hr0⟩ := D.r.ins
    obtain ⟨n0, d0⟩ := drop_get hd
    refine ⟨_, rfl, ar, dr, _, rfl, hr0, rfl, ar, nl, ns, i, n, rfl, D.r, n0, fun H1 R1 s1 => ?_⟩
    obtain ⟨dr1, hr1⟩ := R1.ins
    refine ⟨_, rfl, ar, dr1, _, rfl, hr1, rfl, ar, nl, ns, i + 1, s', rest, rfl, R1, d0, fun H2 u R2 s2 hu lu => ?_⟩
    have s12 := s1.trans s2 (fun _ h => h)
    have D2 := D.go R2 s12
    have eg : (Ut09.step g (.some_ n s')).1 = g := rfl
    have bad : (Ut09.sentOk 3 s' = false ∨ n = 0 ∨ 5 < n) → (Ut09.step g (.some_ n s')).2 = [-1] := fun e => by simp only [Ut09.step, if_pos e]
    -- if not 1 <= much <= MOST_SENTENCES or not is_sentence(sentence, LONGEST_FOR_SOME)
    refine ⟨_, rfl, _, _, rfl, rfl, _, rfl, ?_⟩
    by_cases c1 : 1 ≤ n
    · rw [decide_eq_true (show (1 : Int) ≤ ((n : Nat) : Int) by omega)]
      refine iteT ⟨_, _, rfl, rfl, _, rfl, ?_⟩
      refine ite2 (fun c => ?_) (fun c => ?_)
      · refine one_new D2 s12 eg k (-1) (Same.refl H2) (bad (.inr (.inr ?_)))
        have c' : decide (((n : Nat) : Int) ≤ 5) = false := by simpa using c
        have := of_decide_eq_false c'
        omega
      · have c2 : n ≤ 5 := by
          have c' : decide (((n : Nat) : Int) ≤ 5) = true := by simpa using c
          have := of_decide_eq_true c'
          omega
        refine ⟨_, rfl, u, s', 3, rfl, LstN.sq lu, ls, fun H3 s3 => ⟨_, rfl, ?_⟩⟩
        refine ite2 (fun c => one_new D2 s12 eg k (-1) s3 (bad (.inl (by simpa using c)))) (fun c => ?_)
        have e3 : Ut09.sentOk 3 s' = true := by simpa using c
        have l3 : s'.length ≤ 3 := by
          rw [sentOk_words, Bool.and_eq_true, decide_eq_true_eq] at e3
          exact e3.1
        have good : (Ut09.step g (.some_ n s')).2 = ((((Ut09.sentences g.prices g.phrases s').take n).length : Nat) : Int) :: Ut09.ints (((Ut09.sentences g.prices g.phrases s').take n).flatMap Ut09.foundRow) := by
          have nb : ¬ (Ut09.sentOk 3 s' = false ∨ n = 0 ∨ 5 < n) := by
            rintro (z | z | z)
            · rw [e3] at z
              cases z
            · omega
            · omega
          exact if_neg nb
        -- ways = cheapest_sentences(machine, sentence, much)
        refine ⟨_, rfl, _, rfl, _, rfl, am, pl, pd, u, g, s', n, rfl, (D2.m.same s3).any, D2.g, s3.seq (LstN.sq lu), by omega, fun H4 wl us s4 _ hwl all sent => ?_⟩
        have s34 := s3.trans s4
        have lus : us.length ≤ 5 := by
          have := congrArg List.length sent
          rw [List.length_map, List.length_take] at this
          omega
        have lr : (refs us).length = us.length := List.length_map _
        -- told = [len(ways)]
        refine ⟨_, rfl, wl, _, rfl, .inl (SqL.of hwl), (by show 1 ≤ sizeLine; decide), fun tl htl => ?_⟩
        rw [lr]
        have s45 := same_new (o := .lst [V.int ((us.length : Nat) : Int)]) htl
        have smal : ∀ u ∈ us, u.2.words.length ≤ 15 ∧ u.2.steps.length ≤ 5 := fun u hu => (all u hu).2
        have bx : ∀ u ∈ us, TrlX (fun b => b ≠ tl) A (upd H4 tl (.lst [V.int ((us.length : Nat) : Int)])) u.1 u.2 := fun u hu => (((all u hu).1.notNew htl).mono fun _ h => h.2).same s45
        have nwl : wl ≠ tl := ne_of_none hwl htl
        have hwl5 := s45 _ _ hwl
        have t5 : LstN (upd H4 tl (.lst [V.int ((us.length : Nat) : Int)])) tl [us.length] := upd_same
        have ntl := s34.free htl
        have s25 := s34.trans s45
        generalize upd H4 tl (.lst [V.int ((us.length : Nat) : Int)]) = H5 at bx hwl5 t5 s25
        -- for way in ways: told.extend(told_way(way))
        refine ⟨_, rfl, wl, rfl, ⟨_, SqL.of hwl5⟩, for_list (K := K) (a := wl) (xs := refs us) (fun j σ H' => ∃ v6 : Option V, σ = [some (.ref am), some (.ref ar), some (.int (n : Nat)), some (.ref u), some (.ref wl), some (.ref tl), v6] ∧ (∀ b o, H5 b = some o → b ≠ tl → H' b = some o) ∧ (∀ b, H' b = none → H5 b = none) ∧ LstN H' tl (us.length :: (us.take j).flatMap fun u => Ut09.foundRow (found u.2)))
          ⟨none, rfl, fun b o e _ => e, fun _ h => h, t5⟩ (fun j σ H' _ ⟨_, _, h, _⟩ => SqL.of (h _ _ hwl5 nwl)) ?_ ?_⟩
        · rintro j x σ H6 hj ⟨v6, rfl, kp, fr, t6⟩
          obtain ⟨z, hz, rfl⟩ := map_get hj
          have hzm := mem_of_get hz
          obtain ⟨dt, sl, wl2, m1, m2, m3, e1, e2, e3⟩ := bx z hzm
          have B6 : TrlAt A H6 z.1 z.2 := ⟨dt, sl, wl2, trivial, trivial, trivial, kp _ _ e1 m1, kp _ _ e2 m2, kp _ _ e3 m3⟩
          obtain ⟨q1, q2⟩ := smal z hzm
          refine ⟨_, rfl, .inl ⟨rfl, _, SqL.of t6⟩, _, rfl, z.1, z.2, rfl, B6, by omega, by omega, fun H7 p s7 np hp => ?_⟩
          have npt : p ≠ tl := fun q => by rw [q, t6] at np; cases np
          refine ⟨tl, p, _, _, rfl, rfl, s7 _ _ t6, hp, ?_, some (.ref z.1), rfl, fun b o e nb => ?_, fun b h => fr b (s7.free (upd_none h)), ?_⟩
          · have lt := rows_length (us.take j) fun u hu => smal u (List.mem_of_mem_take hu)
            have lj : (us.take j).length ≤ 5 := by rw [List.length_take]; omega
            have lx := foundRow_length (found z.2)
            have lx2 : (found z.2).2.1.length = z.2.steps.length := rfl
            have lx3 : (found z.2).2.2.length = z.2.words.length := rfl
            rw [vN_length, vN_length, List.length_cons]
            exact small_line (by omega)
          · exact (upd_ne nb).trans (s7 _ _ (kp b o e nb))
          · unfold LstN
            rw [upd_same, ← vN_append, flatMap_take_more hz]
            rfl
        · rintro σ H6 ⟨v6, rfl, kp, fr, t6⟩
          rw [lr, List.take_length] at t6
          have s26 : Same H2 H6 := fun b o e => kp b o (s25 _ _ e) (ne_of_none e ntl)
          refine ⟨_, rfl, owes_new D2 s12 s26 ntl ?_ eg k⟩
          rw [good, ← sent]
          have e1 : ((us.map fun u => found u.2).flatMap Ut09.foundRow) = us.flatMap fun u => Ut09.foundRow (found u.2) := by rw [List.flatMap_map]
          rw [e1, List.length_map]
          have e2 : (((us.length : Nat) : Int) :: Ut09.ints (us.flatMap fun u => Ut09.foundRow (found u.2))) = Ut09.ints (us.length :: us.flatMap fun u => Ut09.foundRow (found u.2)) := rfl
          rw [e2, ← vN_ints]
          exact t6
    · rw [decide_eq_false (show ¬ (1 : Int) ≤ ((n : Nat) : Int) by omega)]
      refine iteF ⟨_, rfl, iteT ?_⟩
      exact one_new D2 s12 eg k (-1) (Same.refl H2) (bad (.inr (.inl (by omega))))
/-! phrases -/
def phrRow (x : Ut09.Phrase) : List Nat := [x.number, x.cost, x.source.length] ++ x.source ++ (x.target.length :: x.target)
theorem phrRow_length {x : Ut09.Phrase} (h : x.source.length ≤ 3) (h' : x.target.length ≤ 3) : (phrRow x).length ≤ 10 := by
  unfold phrRow
  simp only [List.length_append, List.length_cons, List.length_nil]
  omega
theorem phrRows_length : ∀ (l : List Ut09.Phrase), (∀ x ∈ l, x.source.length ≤ 3 ∧ x.target.length ≤ 3) → (l.flatMap phrRow).length ≤ 10 * l.length
  | [], _ => by simp
  | x :: l, h => by
    have ih := phrRows_length l fun v hv => h v (List.mem_cons_of_mem _ hv)
    obtain ⟨h1, h2⟩ := h x List.mem_cons_self
    have := phrRow_length h1 h2
    rw [List.flatMap_cons, List.length_append, List.length_cons]
    omega
def sp_told_phrases (A : Ad) : Sp := fun vs H Q _ => ∃ (am pl pd : Addr) (g : Ut09.House), vs = [.ref am] ∧ MachAt A H am pl pd g ∧ GoodG g ∧ ∀ H' p, Same H H' → H p = none → LstN H' p (g.phrases.length :: g.phrases.flatMap phrRow) → Q (.ref p) H'
theorem ok_told_phrases (T : Txt K mg A) : FnOk P w K mg base CX0 2 A.f_told_phrases A.d_told_phrases ["machine"] (sp_told_phrases A) := by
  refine T.F_told_phrases.ok sc_told_phrases (fun vs H Q E h => ?_) (fun cdv Ar outer s H vs Q E hr h => ?_)
  · obtain ⟨am, pl, pd, g, rfl, _⟩ := h
    rfl
  · obtain ⟨am, pl, pd, g, rfl, M, G, k⟩ := h
    refine ⟨_, (pss_cons (ps_set (i := 1) sc_told_phrases.nd rfl (Or.inl rfl) (pe_lst (pa_cons (pe_callB call_len_seq (by rfl) T.b_len PySem.boot_len (pa_cons (pe_fld (pv 0) rfl) pa_nil)) pa_nil))) (pss_cons (ps_for PassesOwn.never rfl (pi_list (pe_fld (pv 0) rfl)) (pg_name (i := 2) sc_told_phrases.nd rfl (Or.inl rfl)) (pss_one (ps_expr (pe_bm PySem.F.plainAttrs_list PySem.F.slot_list_extend PySem.F.type_list_extend mt_extend (pv 1) (pa_cons (pe_op op_cat (pe_op op_cat (pe_lst (pa_cons (pe_fld (pv 2) rfl) (pa_cons (pe_fld (pv 2) rfl) pa_nil))) (pe_call (ok_counted T) (hr.mono (by decide)) (by rfl) T.g_counted T.k_counted T.b_counted .nil pass0 (pa_cons (pe_fld (pv 2) rfl) pa_nil))) (pe_call (ok_counted T) (hr.mono (by decide)) (by rfl) T.g_counted T.k_counted T.b_counted .nil pass0 (pa_cons (pe_fld (pv 2) rfl) pa_nil))) pa_nil))))) (pss_one (ps_ret (pv 1))))), ?_⟩
    obtain ⟨⟨dm, hm⟩, ⟨zs, hz1, hz2, hz3⟩, _⟩ := id M
    have lz : (zs.map fun z => V.ref z.1).length = g.phrases.length := by rw [← hz2, List.length_map, List.length_map]
    refine ⟨_, rfl, am, _, dm, _, _, rfl, hm, T.cl_Machine, T.n_Machine_phrases, rfl, pl, _, rfl, .inl (SqL.of hz1), (by show 1 ≤ sizeLine; decide), fun tl htl => ?_⟩
    rw [lz]
    have s1 := same_new (o := .lst [V.int ((g.phrases.length : Nat) : Int)]) htl
    have npl : pl ≠ tl := ne_of_none hz1 htl
    have t1 : LstN (upd H tl (.lst [V.int ((g.phrases.length : Nat) : Int)])) tl [g.phrases.length] := upd_same
    have hm1 := s1 _ _ hm
    have hz11 := s1 _ _ hz1
    have ph : ∀ z ∈ zs, PhrX (fun b => b ≠ tl) A (upd H tl (.lst [V.int ((g.phrases.length : Nat) : Int)])) z.1 z.2 ∧ z.1 ≠ tl := fun z hz => by
      obtain ⟨dz, us, ut, x1, x2, x3, _⟩ := hz3 z hz
      exact ⟨⟨dz, us, ut, s1 _ _ x1, s1 _ _ x2, s1 _ _ x3, ne_of_none x2 htl, ne_of_none x3 htl⟩, ne_of_none x1 htl⟩
    generalize upd H tl (.lst [V.int ((g.phrases.length : Nat) : Int)]) = H1 at s1 t1 hm1 hz11 ph
    refine ⟨_, rfl, am, _, dm, _, _, rfl, hm1, T.cl_Machine, T.n_Machine_phrases, rfl, pl, rfl, ⟨_, SqL.of hz11⟩, for_list (K := K) (a := pl) (xs := zs.map fun z => V.ref z.1) (fun j σ H' => ∃ v2 : Option V, σ = [some (.ref am), some (.ref tl), v2] ∧ (∀ b o, H1 b = some o → b ≠ tl → H' b = some o) ∧ LstN H' tl (g.phrases.length :: (g.phrases.take j).flatMap phrRow))
      ⟨none, rfl, fun b o e _ => e, t1⟩ (fun j σ H' _ ⟨_, _, h, _⟩ => SqL.of (h _ _ hz11 npl)) ?_ ?_⟩
    · rintro j x σ H2 hj ⟨v2, rfl, kp, t2⟩
      obtain ⟨z, hz, rfl⟩ := map_get hj
      have hzm := mem_of_get hz
      have hx : g.phrases[j]? = some z.2 := by rw [← hz2, List.getElem?_map, hz]; rfl
      obtain ⟨⟨dz, us, ut, x1, x2, x3, m2, m3⟩, m1⟩ := ph z hzm
      have y1 := kp _ _ x1 m1
      have y2 := kp _ _ x2 m2
      have y3 := kp _ _ x3 m3
      obtain ⟨q1, q2, _⟩ := G.srcs z.2 (mem_of_get hx)
      refine ⟨_, rfl, .inl ⟨rfl, _, SqL.of t2⟩, _, rfl, z.1, _, dz, _, _, rfl, y1, T.cl_Phrase, T.n_Phrase_number, rfl, _, rfl, z.1, _, dz, _, _, rfl, y1, T.cl_Phrase, T.n_Phrase_cost, rfl, (by show 2 ≤ sizeLine; decide), fun p1 hp1 => ?_⟩
      have s3 := same_new (o := .lst [V.int ((z.2.number : Nat) : Int), V.int ((z.2.cost : Nat) : Int)]) hp1
      have a1 : LstN (upd H2 p1 (.lst [V.int ((z.2.number : Nat) : Int), V.int ((z.2.cost : Nat) : Int)])) p1 [z.2.number, z.2.cost] := upd_same
      generalize upd H2 p1 (.lst [V.int ((z.2.number : Nat) : Int), V.int ((z.2.cost : Nat) : Int)]) = H3 at s3 a1
      refine ⟨_, rfl, z.1, _, dz, _, _, rfl, s3 _ _ y1, T.cl_Phrase, T.n_Phrase_source, rfl, us, z.2.source, rfl, s3 _ _ y2, by omega, fun H4 p2 s4 np2 a2 => ?_⟩
      refine ⟨p1, p2, _, _, rfl, rfl, a1.same s4, a2, ?_, fun p3 hp3 => ?_⟩
      · rw [vN_length, vN_length]
        exact small_line (by show 2 + (z.2.source.length + 1) ≤ 5000; omega)
      have s5 := same_new (o := .lst (vN [z.2.number, z.2.cost] ++ vN (z.2.source.length :: z.2.source))) hp3
      have a3 : LstN (upd H4 p3 (.lst (vN [z.2.number, z.2.cost] ++ vN (z.2.source.length :: z.2.source)))) p3 ([z.2.number, z.2.cost] ++ (z.2.source.length :: z.2.source)) := by
        unfold LstN
        rw [upd_same, ← vN_append]
      generalize upd H4 p3 (.lst (vN [z.2.number, z.2.cost] ++ vN (z.2.source.length :: z.2.source))) = H5 at s5 a3
      have s35 := (s3.trans s4).trans s5
      refine ⟨_, rfl, z.1, _, dz, _, _, rfl, s35 _ _ y1, T.cl_Phrase, T.n_Phrase_target, rfl, ut, z.2.target, rfl, s35 _ _ y3, by omega, fun H6 p4 s6 np4 a4 => ?_⟩
      refine ⟨p3, p4, _, _, rfl, rfl, a3.same s6, a4, ?_, fun p5 hp5 => ?_⟩
      · rw [vN_length, vN_length]
        exact small_line (by simp only [List.length_append, List.length_cons, List.length_nil]; omega)
      have s7 := same_new (o := .lst (vN ([z.2.number, z.2.cost] ++ (z.2.source.length :: z.2.source)) ++ vN (z.2.target.length :: z.2.target))) hp5
      have a5 : LstN (upd H6 p5 (.lst (vN ([z.2.number, z.2.cost] ++ (z.2.source.length :: z.2.source)) ++ vN (z.2.target.length :: z.2.target)))) p5 (phrRow z.2) := by
        unfold LstN
        rw [upd_same, ← vN_append]
        rfl
      have s37 := (s35.trans s6).trans s7
      generalize upd H6 p5 (.lst (vN ([z.2.number, z.2.cost] ++ (z.2.source.length :: z.2.source)) ++ vN (z.2.target.length :: z.2.target))) = H7 at s37 a5
      refine ⟨tl, p5, _, _, rfl, rfl, s37 _ _ t2, a5, ?_, some (.ref z.1), rfl, fun b o e nb => ?_, ?_⟩
      · have lt := phrRows_length (g.phrases.take j) fun x hx => ⟨(G.srcs x (List.mem_of_mem_take hx)).1, (G.srcs x (List.mem_of_mem_take hx)).2.1⟩
        have lj : (g.phrases.take j).length ≤ 6 := by
          have := G.few
          rw [List.length_take]
          omega
        have lx := phrRow_length q1 q2
        rw [vN_length, vN_length, List.length_cons]
        exact small_line (by omega)
      · exact (upd_ne nb).trans (s37 _ _ (kp b o e nb))
      · unfold LstN
        rw [upd_same, ← vN_append, flatMap_take_more hx]
        rfl
    · rintro σ H2 ⟨v2, rfl, kp, t2⟩
      rw [lz, List.take_length] at t2
      exact ⟨_, rfl, k H2 tl (fun b o e => kp b o (s1 _ _ e) (ne_of_none e htl)) htl t2⟩
end
end Pw
namespace Pw
open PyFlat PyUt09
/-! A line of calls, from the left -/
def doCall (g : Ut09.St) (c : List (List Int)) : Ut09.St × List Int := Ut09Neutral.step g ((whole c).headD [])
def after (g : Ut09.St) : List (List (List Int)) → Ut09.St
  | [] => g
  | c :: r => after (doCall g c).1 r
def outs (g : Ut09.St) : List (List (List Int)) → List (List Int)
  | [] => []
  | c :: r => (doCall g c).2 :: outs (doCall g c).1 r
theorem played_outs : ∀ (cs : List (List (List Int))) (g : Ut09.St), played (fun s c => Ut09Neutral.step s (c.headD [])) g (cs.map whole) = outs g cs
  | [], g => rfl
  | c :: r, g => by
    show (doCall g c).2 :: played _ (doCall g c).1 (r.map whole) = (doCall g c).2 :: outs (doCall g c).1 r
    rw [played_outs r]
theorem after_snoc : ∀ (a : List (List (List Int))) (g : Ut09.St) (c : List (List Int)), after g (a ++ [c]) = (doCall (after g a) c).1
  | [], g, c => rfl
  | x :: a, g, c => after_snoc a _ c
theorem outs_snoc : ∀ (a : List (List (List Int))) (g : Ut09.St) (c : List (List Int)), outs g (a ++ [c]) = outs g a ++ [(doCall (after g a) c).2]
  | [], g, c => rfl
  | x :: a, g, c => by
    show (doCall g x).2 :: outs (doCall g x).1 (a ++ [c]) = (doCall g x).2 :: (outs (doCall g x).1 a ++ [(doCall (after (doCall g x).1 a) c).2])
    rw [outs_snoc a]
theorem outs_append : ∀ (a b : List (List (List Int))) (g : Ut09.St), outs g (a ++ b) = outs g a ++ outs (after g a) b
  | [], b, g => rfl
  | x :: a, b, g => by
    show (doCall g x).2 :: outs (doCall g x).1 (a ++ b) = (doCall g x).2 :: (outs (doCall g x).1 a ++ outs (after (doCall g x).1 a) b)
    rw [outs_append a]
theorem told_append (a b : List (List Int)) : told (a ++ b) = told a ++ told b := by
  unfold told
  rw [List.flatMap_append]
theorem told_one (x : List Int) : told [x] = (x.length : Int) :: x := by simp [told]
theorem put_append : ∀ (a b : List (List (List Int))), put (a ++ b) = put a ++ put b
  | [], b => rfl
  | x :: a, b => by
    show put1 x ++ put (a ++ b) = (put1 x ++ put a) ++ put b
    rw [put_append a, List.append_assoc]
/-- what is asked, opened -/
structure Line (l : List Int) (raw : List (List (List Int))) : Prop where
  put : l = PyFlat.put raw
  is : ∀ c ∈ raw, ∃ x, Is c x ∧ ∀ g, doCall g c = Ut09.step g x
  ne : raw ≠ []
  out : PyUt09.answers l = told (outs Ut09.init raw)
  short : (told (outs Ut09.init raw)).length ≤ 10000000
theorem line_of {l : List Int} (h : PyUt09.answers_asked l = true) : ∃ raw, Line l raw := by
  unfold PyUt09.answers_asked at h
  cases e : PyFlat.calls shape l.length l with
  | none => rw [e] at h; cases h
  | some raw =>
    rw [e] at h
    simp only [Bool.and_eq_true] at h
    obtain ⟨⟨⟨⟨h1, h2⟩, h3⟩, h4⟩, h5⟩ := h
    obtain ⟨p1, p2⟩ := put_calls l.length l raw e
    have out : PyUt09.answers l = told (outs Ut09.init raw) := by
      unfold PyUt09.answers PyUt09.calls
      rw [e]
      show told (played (fun s c => Ut09Neutral.step s (c.headD [])) Ut09Neutral.start (raw.map whole)) = _
      rw [played_outs]
      rfl
    refine ⟨raw, p1, fun c hc => ?_, ?_, out, ?_⟩
    · unfold Ut09Neutral.asked at h4
      rw [Bool.and_eq_true, List.all_eq_true] at h4
      have q := h4.1 ((whole c).headD []) (List.mem_map_of_mem (List.mem_map_of_mem hc))
      have b : PyInside.call bound c = true := by
        unfold PyInside.calls at h3
        rw [List.all_eq_true] at h3
        exact h3 c hc
      exact is_of (p2 c hc) b q
    · intro e
      rw [e] at h1
      cases h1
    · unfold PyFlat.short at h5
      have := of_decide_eq_true h5
      rw [out] at this
      exact this
theorem ints_append (a b : List Nat) : Ut09.ints (a ++ b) = Ut09.ints a ++ Ut09.ints b := by
  unfold Ut09.ints
  rw [List.map_append]
theorem ints_inj : ∀ {a b : List Nat}, Ut09.ints a = Ut09.ints b → a = b := by
  intro a b h
  have := congrArg (List.map Int.toNat) h
  rw [toNat_ints, toNat_ints] at this
  exact this
/-- the numbers of a call -/
def code (c : List (List Int)) : List Nat := (put1 c).map Int.toNat
theorem is_nonneg {c : List (List Int)} {x : Ut09.Call} (h : Is c x) : put1 c = Ut09.ints (code c) := by
  unfold code
  refine (ints_toNat fun z hz => ?_).symm
  cases h <;> simp [put1, putRows, putRow, Ut09.ints] at hz <;> omega
theorem code_ne {c : List (List Int)} {x : Ut09.Call} (h : Is c x) : code c ≠ [] := by
  cases h <;> simp [code, put1]
def codes (cs : List (List (List Int))) : List Nat := cs.flatMap code
theorem put_codes : ∀ {cs : List (List (List Int))}, (∀ c ∈ cs, ∃ x, Is c x) → put cs = Ut09.ints (codes cs)
  | [], _ => rfl
  | c :: cs, h => by
    obtain ⟨x, hx⟩ := h c List.mem_cons_self
    show put1 c ++ put cs = Ut09.ints (code c ++ codes cs)
    rw [ints_append, is_nonneg hx, put_codes fun d hd => h d (List.mem_cons_of_mem _ hd)]
theorem codes_append (a b : List (List (List Int))) : codes (a ++ b) = codes a ++ codes b := by
  unfold codes
  rw [List.flatMap_append]
theorem codes_cons (c : List (List Int)) (b : List (List (List Int))) : codes (c :: b) = code c ++ codes b := by
  unfold codes
  rw [List.flatMap_cons]
theorem codes_nil {cs : List (List (List Int))} (h : ∀ c ∈ cs, ∃ x, Is c x) (e : codes cs = []) : cs = [] := by
  cases cs with
  | nil => rfl
  | cons c cs =>
    obtain ⟨x, hx⟩ := h c List.mem_cons_self
    rw [codes_cons] at e
    exact (code_ne hx (List.append_eq_nil_iff.mp e).1).elim
/-- a call's numbers, call by call -/
theorem toNat_cons_ints (a : Nat) (l : List Int) : ((a : Int) :: l).map Int.toNat = a :: l.map Int.toNat := by simp
theorem code_phrase (c : Nat) (s t : List Nat) : code [[0, (c : Int)], Ut09.ints s, Ut09.ints t] = 0 :: c :: s.length :: (s ++ t.length :: t) := by
  simp [code, put1, putRows, putRow, toNat_ints, ints_length]
theorem code_gone (n : Nat) : code [[1, (n : Int)]] = [1, n] := by simp [code, put1, putRows]
theorem code_pair (a b c : Nat) : code [[2, (a : Int), (b : Int), (c : Int)]] = [2, a, b, c] := by simp [code, put1, putRows]
theorem code_prices (a b c : Nat) : code [[3, (a : Int), (b : Int), (c : Int)]] = [3, a, b, c] := by simp [code, put1, putRows]
theorem code_translate (s : List Nat) : code [[4], Ut09.ints s] = 4 :: s.length :: s := by simp [code, put1, putRows, putRow, toNat_ints, ints_length]
theorem code_force (s t : List Nat) : code [[5], Ut09.ints s, Ut09.ints t] = 5 :: s.length :: (s ++ t.length :: t) := by simp [code, put1, putRows, putRow, toNat_ints, ints_length]
theorem code_cost (s t : List Nat) : code [[6], Ut09.ints s, Ut09.ints t] = 6 :: s.length :: (s ++ t.length :: t) := by simp [code, put1, putRows, putRow, toNat_ints, ints_length]
theorem code_some (n : Nat) (s : List Nat) : code [[7, (n : Int)], Ut09.ints s] = 7 :: n :: s.length :: s := by simp [code, put1, putRows, putRow, toNat_ints, ints_length]
theorem code_phrases : code [[8]] = [8] := by simp [code, put1, putRows]
theorem good_after : ∀ {cs : List (List (List Int))} {g : Ut09.House}, GoodG g → (∀ c ∈ cs, ∃ x, ∀ g, doCall g c = Ut09.step g x) → GoodG (after g cs)
  | [], g, G, _ => G
  | c :: cs, g, G, h => by
    obtain ⟨x, hx⟩ := h c List.mem_cons_self
    show GoodG (after (doCall g c).1 cs)
    refine good_after ?_ fun d hd => h d (List.mem_cons_of_mem _ hd)
    rw [hx]
    exact good_step G x
end Pw
set_option Elab.async false
set_option maxRecDepth 100000
set_option maxHeartbeats 4000000
namespace Pw
open PySem L2
section
variable {P : Program} {w : World} {K : PySem.W.Frag} {mg : Str → Option Value} {base : Heap} {A : Ad} {N : Addr → Prop}
def sp_answer_call (K : PySem.W.Frag) (A : Ad) : Sp := fun vs H Q _ => ∃ (N : Addr → Prop) (am pl pd ar nl : Addr) (g : Ut09.House) (ns : List Nat) (i : Nat) (c : List (List Int)) (x : Ut09.Call) (rest : List Nat), vs = [.ref am, .ref ar] ∧ Desk N K A H am pl pd g ar nl ns i ∧ Is c x ∧ ns.drop i = code c ++ rest ∧
  OwesL N K A am pl pd g ar nl ns (i + (code c).length) H Q x
/-- what is owed behind the call's own number -/
theorem owes_step {H H1 : Hp} {am pl pd ar nl : Addr} {g : Ut09.House} {ns : List Nat} {j : Nat} {c : Ut09.Call} {Q : VK} (s1 : SameBut [ar] H H1) (k : OwesL N K A am pl pd g ar nl ns j H Q c) : OwesL N K A am pl pd g ar nl ns j H1 Q c := by
  intro H' p pl' M hp R s np e
  exact k H' p pl' M (hp.imp id (s1.keep _)) R ((s1.mono (by simp)).trans s (fun _ h => h)) (s1.keep _ np) e
theorem ifF {c : Bool} {A B : Prop} (hc : c = false) (h : B) : if c = true then A else B := by
  rw [hc, if_neg Bool.false_ne_true]
  exact h
theorem ifT {c : Bool} {A B : Prop} (hc : c = true) (h : A) : if c = true then A else B := by
  rw [hc, if_pos rfl]
  exact h
theorem tagF {a b : Nat} (h : a ≠ b) : decide (V.int ((a : Nat) : Int) = V.int ((b : Nat) : Int)) = false := decide_eq_false fun q => h (vint_eq.mp q)
theorem tagT (a : Nat) : decide (V.int ((a : Nat) : Int) = V.int ((a : Nat) : Int)) = true := decide_eq_true rfl
theorem ok_answer_call (T : Txt K mg A) : FnOk P w K mg base CX0 8 A.f_answer_call A.d_answer_call ["machine", "reader"] (sp_answer_call K A) := by
  refine T.F_answer_call.ok sc_answer_call (fun vs H Q E h => ?_) (fun cdv Ar outer s H vs Q E hr h => ?_)
  · obtain ⟨N, am, pl, pd, ar, nl, g, ns, i, c, x, rest, rfl, _⟩ := h
    rfl
  · obtain ⟨N, am, pl, pd, ar, nl, g, ns, i, c, x, rest, rfl, D, hc, hd, k⟩ := h
    refine ⟨_, (pss_cons (ps_set (i := 2) sc_answer_call.nd rfl (Or.inl rfl) (pe_meth0 (pv 1) T.cl_Reader T.m_Reader_take (ok_Reader_take T) (hr.mono (by decide)) T.b_Reader_take .nil pass0)) (pss_cons (ps_if (pt_cmpR op_eq (pv 2) (pe_glob (v := .int (0)) rfl T.g_PHRASE ⟨_, rfl⟩) (nomark _)) (pss_one (ps_ret (pe_call (ok_answer_phrase T) (hr.mono (by decide)) (by rfl) T.g_answer_phrase T.k_answer_phrase T.b_answer_phrase .nil pass0 (pa_cons (pv 0) (pa_cons (pv 1) pa_nil))))) pss_nil) (pss_cons (ps_if (pt_cmpR op_eq (pv 2) (pe_glob (v := .int (1)) rfl T.g_GONE ⟨_, rfl⟩) (nomark _)) (pss_one (ps_ret (pe_lst (pa_cons (pe_meth (pv 0) T.cl_Machine T.m_Machine_drop_phrase (ok_Machine_drop_phrase T) (hr.mono (by decide)) T.b_Machine_drop_phrase .nil pass0 (pa_cons (pe_meth0 (pv 1) T.cl_Reader T.m_Reader_take (ok_Reader_take T) (hr.mono (by decide)) T.b_Reader_take .nil pass0) pa_nil)) pa_nil)))) pss_nil) (pss_cons (ps_if (pt_cmpR op_eq (pv 2) (pe_glob (v := .int (2)) rfl T.g_PAIR ⟨_, rfl⟩) (nomark _)) (pss_one (ps_ret (pe_call (ok_answer_pair T) (hr.mono (by decide)) (by rfl) T.g_answer_pair T.k_answer_pair T.b_answer_pair .nil pass0 (pa_cons (pv 0) (pa_cons (pv 1) pa_nil))))) pss_nil) (pss_cons (ps_if (pt_cmpR op_eq (pv 2) (pe_glob (v := .int (3)) rfl T.g_PRICES ⟨_, rfl⟩) (nomark _)) (pss_one (ps_ret (pe_call (ok_answer_prices T) (hr.mono (by decide)) (by rfl) T.g_answer_prices T.k_answer_prices T.b_answer_prices .nil pass0 (pa_cons (pv 0) (pa_cons (pv 1) pa_nil))))) pss_nil) (pss_cons (ps_if (pt_cmpR op_eq (pv 2) (pe_glob (v := .int (4)) rfl T.g_TRANSLATE ⟨_, rfl⟩) (nomark _)) (pss_one (ps_ret (pe_call (ok_answer_translate T) (hr.mono (by decide)) (by rfl) T.g_answer_translate T.k_answer_translate T.b_answer_translate .nil pass0 (pa_cons (pv 0) (pa_cons (pv 1) pa_nil))))) pss_nil) (pss_cons (ps_if (pt_cmpR op_eq (pv 2) (pe_glob (v := .int (5)) rfl T.g_FORCE ⟨_, rfl⟩) (nomark _)) (pss_one (ps_ret (pe_call (ok_answer_force T) (hr.mono (by decide)) (by rfl) T.g_answer_force T.k_answer_force T.b_answer_force .nil pass0 (pa_cons (pv 0) (pa_cons (pv 1) pa_nil))))) pss_nil) (pss_cons (ps_if (pt_cmpR op_eq (pv 2) (pe_glob (v := .int (6)) rfl T.g_COST ⟨_, rfl⟩) (nomark _)) (pss_one (ps_ret (pe_call (ok_answer_cost T) (hr.mono (by decide)) (by rfl) T.g_answer_cost T.k_answer_cost T.b_answer_cost .nil pass0 (pa_cons (pv 0) (pa_cons (pv 1) pa_nil))))) pss_nil) (pss_cons (ps_if (pt_cmpR op_eq (pv 2) (pe_glob (v := .int (7)) rfl T.g_SOME ⟨_, rfl⟩) (nomark _)) (pss_one (ps_ret (pe_call (ok_answer_some T) (hr.mono (by decide)) (by rfl) T.g_answer_some T.k_answer_some T.b_answer_some .nil pass0 (pa_cons (pv 0) (pa_cons (pv 1) pa_nil))))) pss_nil) (pss_cons (ps_if (pt_cmpR op_eq (pv 2) (pe_glob (v := .int (8)) rfl T.g_PHRASES ⟨_, rfl⟩) (nomark _)) (pss_one (ps_ret (pe_call (ok_told_phrases T) (hr.mono (by decide)) (by rfl) T.g_told_phrases T.k_told_phrases T.b_told_phrases .nil pass0 (pa_cons (pv 0) pa_nil)))) pss_nil) (pss_one ps_never))))))))))), ?_⟩
    obtain ⟨dr, hr0⟩ := D.r.ins
    cases hc with
    | phrase c s t ls lt =>
      rw [code_phrase] at hd k
      obtain ⟨n0, d0⟩ := drop_get hd
      refine ⟨_, rfl, ar, dr, _, rfl, hr0, rfl, ar, nl, ns, i, _, rfl, D.r, n0, fun H1 R1 s1 => ?_⟩
      refine ⟨_, rfl, rfl, _, rfl, ?_⟩
      refine ifT (tagT 0) ?_
      refine ⟨_, rfl, _, rfl, N, am, pl, pd, ar, nl, g, ns, i + 1, c, s, t, rest, rfl, D.go R1 s1, ?_, by omega, by omega, owes_step s1 ?_⟩
      · rw [d0]
        simp
      · have e : i + (0 :: c :: s.length :: (s ++ t.length :: t)).length = i + 1 + 1 + 1 + s.length + 1 + t.length := by
          simp only [List.length_cons, List.length_append]
          omega
        rw [e] at k
        exact k
    | gone n =>
      rw [code_gone] at hd k
      obtain ⟨n0, d0⟩ := drop_get hd
      obtain ⟨n1, d1⟩ := drop_get d0
      refine ⟨_, rfl, ar, dr, _, rfl, hr0, rfl, ar, nl, ns, i, _, rfl, D.r, n0, fun H1 R1 s1 => ?_⟩
      refine ⟨_, rfl, rfl, _, rfl, ?_⟩
      refine ifF (tagF (a := 1) (b := 0) (by decide)) ⟨_, rfl, rfl, _, rfl, ?_⟩
      refine ifT (tagT 1) ?_
      have D1 := D.go R1 s1
      obtain ⟨dm, hm⟩ := D1.m.ins
      obtain ⟨dr1, hr1⟩ := R1.ins
      refine ⟨_, rfl, am, dm, _, rfl, hm, rfl, _, rfl, ar, dr1, _, rfl, hr1, rfl, ar, nl, ns, i + 1, n, rfl, R1, n1, fun H2 R2 s2 => ?_⟩
      have s12 := s1.trans s2 (fun _ h => h)
      have D2 := D.go R2 s12
      exact ⟨N, am, pl, pd, g, n, rfl, D2.m, D2.g, owes_one D2.ne D2.m R2 s12 k⟩
    | pair a b c =>
      rw [code_pair] at hd k
      obtain ⟨n0, d0⟩ := drop_get hd
      refine ⟨_, rfl, ar, dr, _, rfl, hr0, rfl, ar, nl, ns, i, _, rfl, D.r, n0, fun H1 R1 s1 => ?_⟩
      refine ⟨_, rfl, rfl, _, rfl, ?_⟩
      refine ifF (tagF (a := 2) (b := 0) (by decide)) ⟨_, rfl, rfl, _, rfl, ?_⟩
      refine ifF (tagF (a := 2) (b := 1) (by decide)) ⟨_, rfl, rfl, _, rfl, ?_⟩
      refine ifT (tagT 2) ?_
      exact ⟨_, rfl, _, rfl, N, am, pl, pd, ar, nl, g, ns, i + 1, a, b, c, rest, rfl, D.go R1 s1, d0, owes_step s1 (by rw [show i + 1 + 3 = i + 4 from by omega]; exact k)⟩
    | prices a b c =>
      rw [code_prices] at hd k
      obtain ⟨n0, d0⟩ := drop_get hd
      refine ⟨_, rfl, ar, dr, _, rfl, hr0, rfl, ar, nl, ns, i, _, rfl, D.r, n0, fun H1 R1 s1 => ?_⟩
      refine ⟨_, rfl, rfl, _, rfl, ?_⟩
      refine ifF (tagF (a := 3) (b := 0) (by decide)) ⟨_, rfl, rfl, _, rfl, ?_⟩
      refine ifF (tagF (a := 3) (b := 1) (by decide)) ⟨_, rfl, rfl, _, rfl, ?_⟩
      refine ifF (tagF (a := 3) (b := 2) (by decide)) ⟨_, rfl, rfl, _, rfl, ?_⟩
      refine ifT (tagT 3) ?_
      exact ⟨_, rfl, _, rfl, N, am, pl, pd, ar, nl, g, ns, i + 1, a, b, c, rest, rfl, D.go R1 s1, d0, owes_step s1 (by rw [show i + 1 + 3 = i + 4 from by omega]; exact k)⟩
    | translate s ls =>
      rw [code_translate] at hd k
      obtain ⟨n0, d0⟩ := drop_get hd
      refine ⟨_, rfl, ar, dr, _, rfl, hr0, rfl, ar, nl, ns, i, _, rfl, D.r, n0, fun H1 R1 s1 => ?_⟩
      refine ⟨_, rfl, rfl, _, rfl, ?_⟩
      refine ifF (tagF (a := 4) (b := 0) (by decide)) ⟨_, rfl, rfl, _, rfl, ?_⟩
      refine ifF (tagF (a := 4) (b := 1) (by decide)) ⟨_, rfl, rfl, _, rfl, ?_⟩
      refine ifF (tagF (a := 4) (b := 2) (by decide)) ⟨_, rfl, rfl, _, rfl, ?_⟩
      refine ifF (tagF (a := 4) (b := 3) (by decide)) ⟨_, rfl, rfl, _, rfl, ?_⟩
      refine ifT (tagT 4) ?_
      have e : i + (4 :: s.length :: s).length = i + 1 + 1 + s.length := by
        simp only [List.length_cons]
        omega
      rw [e] at k
      exact ⟨_, rfl, _, rfl, N, am, pl, pd, ar, nl, g, ns, i + 1, s, rest, rfl, D.go R1 s1, d0, by omega, owes_step s1 k⟩
    | force s t ls lt =>
      rw [code_force] at hd k
      obtain ⟨n0, d0⟩ := drop_get hd
      refine ⟨_, rfl, ar, dr, _, rfl, hr0, rfl, ar, nl, ns, i, _, rfl, D.r, n0, fun H1 R1 s1 => ?_⟩
      refine ⟨_, rfl, rfl, _, rfl, ?_⟩
      refine ifF (tagF (a := 5) (b := 0) (by decide)) ⟨_, rfl, rfl, _, rfl, ?_⟩
      refine ifF (tagF (a := 5) (b := 1) (by decide)) ⟨_, rfl, rfl, _, rfl, ?_⟩
      refine ifF (tagF (a := 5) (b := 2) (by decide)) ⟨_, rfl, rfl, _, rfl, ?_⟩
      refine ifF (tagF (a := 5) (b := 3) (by decide)) ⟨_, rfl, rfl, _, rfl, ?_⟩
      refine ifF (tagF (a := 5) (b := 4) (by decide)) ⟨_, rfl, rfl, _, rfl, ?_⟩
      refine ifT (tagT 5) ?_
      have e : i + (5 :: s.length :: (s ++ t.length :: t)).length = i + 1 + 1 + s.length + 1 + t.length := by
        simp only [List.length_cons, List.length_append]
        omega
      rw [e] at k
      refine ⟨_, rfl, _, rfl, N, am, pl, pd, ar, nl, g, ns, i + 1, s, t, rest, rfl, D.go R1 s1, ?_, by omega, by omega, owes_step s1 k⟩
      rw [d0]
      simp
    | cost s l wy ls ll hp =>
      have el := pairs_flat hp
      subst el
      rw [code_cost] at hd k
      obtain ⟨n0, d0⟩ := drop_get hd
      refine ⟨_, rfl, ar, dr, _, rfl, hr0, rfl, ar, nl, ns, i, _, rfl, D.r, n0, fun H1 R1 s1 => ?_⟩
      refine ⟨_, rfl, rfl, _, rfl, ?_⟩
      refine ifF (tagF (a := 6) (b := 0) (by decide)) ⟨_, rfl, rfl, _, rfl, ?_⟩
      refine ifF (tagF (a := 6) (b := 1) (by decide)) ⟨_, rfl, rfl, _, rfl, ?_⟩
      refine ifF (tagF (a := 6) (b := 2) (by decide)) ⟨_, rfl, rfl, _, rfl, ?_⟩
      refine ifF (tagF (a := 6) (b := 3) (by decide)) ⟨_, rfl, rfl, _, rfl, ?_⟩
      refine ifF (tagF (a := 6) (b := 4) (by decide)) ⟨_, rfl, rfl, _, rfl, ?_⟩
      refine ifF (tagF (a := 6) (b := 5) (by decide)) ⟨_, rfl, rfl, _, rfl, ?_⟩
      refine ifT (tagT 6) ?_
      have e : i + (6 :: s.length :: (s ++ (flat wy).length :: flat wy)).length = i + 1 + 1 + s.length + 1 + (flat wy).length := by
        simp only [List.length_cons, List.length_append]
        omega
      rw [e] at k
      refine ⟨_, rfl, _, rfl, N, am, pl, pd, ar, nl, g, ns, i + 1, s, wy, rest, rfl, D.go R1 s1, ?_, by omega, owes_step s1 k⟩
      rw [d0]
      simp
    | some_ n s ls =>
      rw [code_some] at hd k
      obtain ⟨n0, d0⟩ := drop_get hd
      refine ⟨_, rfl, ar, dr, _, rfl, hr0, rfl, ar, nl, ns, i, _, rfl, D.r, n0, fun H1 R1 s1 => ?_⟩
      refine ⟨_, rfl, rfl, _, rfl, ?_⟩
      refine ifF (tagF (a := 7) (b := 0) (by decide)) ⟨_, rfl, rfl, _, rfl, ?_⟩
      refine ifF (tagF (a := 7) (b := 1) (by decide)) ⟨_, rfl, rfl, _, rfl, ?_⟩
      refine ifF (tagF (a := 7) (b := 2) (by decide)) ⟨_, rfl, rfl, _, rfl, ?_⟩
      refine ifF (tagF (a := 7) (b := 3) (by decide)) ⟨_, rfl, rfl, _, rfl, ?_⟩
      refine ifF (tagF (a := 7) (b := 4) (by decide)) ⟨_, rfl, rfl, _, rfl, ?_⟩
      refine ifF (tagF (a := 7) (b := 5) (by decide)) ⟨_, rfl, rfl, _, rfl, ?_⟩
      refine ifF (tagF (a := 7) (b := 6) (by decide)) ⟨_, rfl, rfl, _, rfl, ?_⟩
      refine ifT (tagT 7) ?_
      have e : i + (7 :: n :: s.length :: s).length = i + 1 + 1 + 1 + s.length := by
        simp only [List.length_cons]
        omega
      rw [e] at k
      exact ⟨_, rfl, _, rfl, N, am, pl, pd, ar, nl, g, ns, i + 1, n, s, rest, rfl, D.go R1 s1, d0, by omega, owes_step s1 k⟩
    | phrases =>
      rw [code_phrases] at hd k
      obtain ⟨n0, d0⟩ := drop_get hd
      refine ⟨_, rfl, ar, dr, _, rfl, hr0, rfl, ar, nl, ns, i, _, rfl, D.r, n0, fun H1 R1 s1 => ?_⟩
      refine ⟨_, rfl, rfl, _, rfl, ?_⟩
      refine ifF (tagF (a := 8) (b := 0) (by decide)) ⟨_, rfl, rfl, _, rfl, ?_⟩
      refine ifF (tagF (a := 8) (b := 1) (by decide)) ⟨_, rfl, rfl, _, rfl, ?_⟩
      refine ifF (tagF (a := 8) (b := 2) (by decide)) ⟨_, rfl, rfl, _, rfl, ?_⟩
      refine ifF (tagF (a := 8) (b := 3) (by decide)) ⟨_, rfl, rfl, _, rfl, ?_⟩
      refine ifF (tagF (a := 8) (b := 4) (by decide)) ⟨_, rfl, rfl, _, rfl, ?_⟩
      refine ifF (tagF (a := 8) (b := 5) (by decide)) ⟨_, rfl, rfl, _, rfl, ?_⟩
      refine ifF (tagF (a := 8) (b := 6) (by decide)) ⟨_, rfl, rfl, _, rfl, ?_⟩
      refine ifF (tagF (a := 8) (b := 7) (by decide)) ⟨_, rfl, rfl, _, rfl, ?_⟩
      refine ifT (tagT 8) ?_
      have D1 := D.go R1 s1
      refine ⟨_, rfl, am, pl, pd, g, rfl, D1.m.any, D1.g, fun H2 p s2 np hp => owes_new D1 s1 s2 np ?_ rfl k⟩
      show H2 p = some (.lst ((Ut09.ints (g.phrases.length :: g.phrases.flatMap phrRow)).map V.int))
      rw [← vN_ints]
      exact hp
theorem MachX.updL {H : Hp} {L am pl pd : Addr} {g : Ut09.House} {xs : List V} {o : HO} (M : MachX (fun b => b ≠ L) A H am pl pd g) (hL : H L = some (.lst xs)) (hp : L ≠ pl) : MachX (fun b => b ≠ L) A (upd H L o) am pl pd g := by
  obtain ⟨⟨dx, h1⟩, ⟨zs, hz1, hz2, hz3⟩, ⟨kvs, h3, h4⟩⟩ := M
  refine ⟨⟨dx, (upd_ne (ne_of h1 hL (by intro q; cases q))).trans h1⟩, ⟨zs, (upd_ne hp.symm).trans hz1, hz2, fun z hz => ?_⟩, ⟨kvs, (upd_ne (ne_of h3 hL (by intro q; cases q))).trans h3, h4⟩⟩
  obtain ⟨dz, u, t, e1, e2, e3, n1, n2⟩ := hz3 z hz
  exact ⟨dz, u, t, (upd_ne (ne_of e1 hL (by intro q; cases q))).trans e1, (upd_ne n1).trans e2, (upd_ne n2).trans e3, n1, n2⟩
theorem SqL.upd_ne' {H : Hp} {a L : Addr} {xs : List V} {o : HO} (h : SqL K H a xs) (n : a ≠ L) : SqL K (upd H L o) a xs := by
  rcases h with (h | ⟨o, h⟩) | h
  · exact .inl (.inl ((upd_ne n).trans h))
  · exact .inl (.inr ⟨o, (upd_ne n).trans h⟩)
  · exact .inr h
/-- the whole -/
def sp_answers (K : PySem.W.Frag) : Sp := fun vs H Q _ => ∃ (a : Addr) (l : List Int), vs = [.ref a] ∧ SqL K H a (l.map V.int) ∧ PyUt09.answers_asked l = true ∧ ∀ (H' : Hp) (p : Addr), H' p = some (.lst ((PyUt09.answers l).map V.int)) → Q (.ref p) H'
theorem ok_answers (T : Txt K mg A) : FnOk P w K mg base CX0 9 A.f_answers A.d_answers ["calls"] (sp_answers K) := by
  refine T.F_answers.ok sc_answers (fun vs H Q E h => ?_) (fun cdv Ar outer s H vs Q E hr h => ?_)
  · obtain ⟨a, l, rfl, _⟩ := h
    rfl
  · obtain ⟨a, l, rfl, hs, ask, k⟩ := h
    refine ⟨_, (pss_cons (ps_set (i := 1) sc_answers.nd rfl (Or.inl rfl) (pe_make0 T.mk_Machine (ok_Machine_init T) (hr.mono (by decide)) (by rfl) T.g_Machine T.b_Machine_init .nil pass0)) (pss_cons (ps_set (i := 2) sc_answers.nd rfl (Or.inl rfl) (pe_make T.mk_Reader (ok_Reader_init T) (hr.mono (by decide)) (by rfl) T.g_Reader T.b_Reader_init .nil pass0 (pa_cons (pv 0) pa_nil))) (pss_cons (ps_set (i := 3) sc_answers.nd rfl (Or.inl rfl) (pe_lst pa_nil)) (pss_cons (ps_while PassesOwn.never (pt_val (pe_meth0 (pv 2) T.cl_Reader T.m_Reader_has_more (ok_Reader_has_more T) (hr.mono (by decide)) T.b_Reader_has_more .nil pass0)) (pss_cons (ps_set (i := 4) sc_answers.nd rfl (Or.inl rfl) (pe_call (ok_answer_call T) (hr.mono (by decide)) (by rfl) T.g_answer_call T.k_answer_call T.b_answer_call .nil pass0 (pa_cons (pv 1) (pa_cons (pv 2) pa_nil)))) (pss_cons (ps_expr (pe_bm PySem.F.plainAttrs_list PySem.F.slot_list_append PySem.F.type_list_append mt_append (pv 3) (pa_cons (pe_callB call_len_seq (by rfl) T.b_len PySem.boot_len (pa_cons (pv 4) pa_nil)) pa_nil))) (pss_one (ps_expr (pe_bm PySem.F.plainAttrs_list PySem.F.slot_list_extend PySem.F.type_list_extend mt_extend (pv 3) (pa_cons (pv 4) pa_nil))))))) (pss_one (ps_ret (pv 3))))))), ?_⟩
    obtain ⟨raw, L⟩ := line_of ask
    have isall : ∀ c ∈ raw, ∃ x, Is c x := fun c hc => let ⟨x, h, _⟩ := L.is c hc; ⟨x, h⟩
    have el : l = Ut09.ints (codes raw) := L.put.trans (put_codes isall)
    have hs' : SqL K H a (vN (codes raw)) := by
      rw [vN_ints, ← el]
      exact hs
    have nne : codes raw ≠ [] := fun q => L.ne (codes_nil isall q)
    rw [L.out] at k
    -- machine = Machine()
    intro am dm nm ndm nem
    refine ⟨am, dm, rfl, upd_same, fun H1 pl pd M1 npl npd k1 => ⟨rfl, ?_⟩⟩
    have s1 : Same H H1 := Same.made nm ndm k1
    -- reader = Reader(calls)
    refine ⟨_, rfl, ?_⟩
    intro ar dr nr ndr ner
    have s2' : Same H1 (upd (upd H1 dr (.own ar)) ar (.ins A.C_Reader dr [])) := fun b o e => by
      rw [upd_ne (ne_of_none e nr), upd_ne (ne_of_none e ndr)]
      exact e
    refine ⟨ar, dr, a, codes raw, rfl, upd_same, s2'.seq (s1.seq hs'), fun H2 R2 k2 => ⟨rfl, ?_⟩⟩
    have s2 : Same H1 H2 := Same.made nr ndr k2
    -- told = []
    refine ⟨Nat.zero_le _, fun tl htl => ?_⟩
    have s3 := same_new (o := .lst []) htl
    have D3 : Desk (fun b => b ≠ tl) K A (upd H2 tl (.lst [])) am pl pd Ut09.init ar a (codes raw) 0 := ⟨((M1 _).same s2).same s3, good_init, ⟨let ⟨d, h⟩ := R2.ins; ⟨d, s3 _ _ h⟩, s3.seq R2.sq⟩, nne, fun b h q => by rw [q, upd_same] at h; cases h⟩
    have tn : ∀ {H : Hp} {pl' : Addr}, H tl = none → PhrL (fun _ => True) A H pl' Ut09.init.phrases → tl ≠ pl' := fun h ⟨zs, h1, _⟩ q => by
      rw [q, h1] at h
      cases h
    have tpl : tl ≠ pl := tn htl (((M1 _).same s2).phs)
    have nal : a ≠ tl ∨ ∀ H' : Hp, SqL K H' a (vN (codes raw)) := by
      rcases hs' with (h | ⟨o, h⟩) | h
      · exact .inl (ne_of_none (s2 _ _ (s1 _ _ h)) htl)
      · exact .inl (ne_of_none (s2 _ _ (s1 _ _ h)) htl)
      · exact .inr fun H' => .inr h
    -- while reader.has_more()
    refine ⟨fun m σ H' => ∃ (done rest : List (List (List Int))) (pl : Addr) (v4 : Option V), raw = done ++ rest ∧ m = rest.length ∧ σ = [some (.ref a), some (.ref am), some (.ref ar), some (.ref tl), v4] ∧ Desk (fun b => b ≠ tl) K A H' am pl pd (after Ut09.init done) ar a (codes raw) (codes done).length ∧ H' tl = some (.lst ((PyFlat.told (outs Ut09.init done)).map V.int)) ∧ tl ≠ pl, ?_, ?_⟩
    · exact ⟨_, [], raw, pl, none, rfl, rfl, rfl, D3, upd_same, tpl⟩
    · rintro m σ H4 ⟨done, rest, pl, v4, er, rfl, rfl, D, ht, tpl⟩
      obtain ⟨dr4, hr4⟩ := D.r.ins
      refine ⟨_, rfl, ar, dr4, _, rfl, hr4, rfl, ar, a, codes raw, _, rfl, D.r, _, rfl, ?_⟩
      have len : (codes raw).length = (codes done).length + (codes rest).length := by rw [er, codes_append, List.length_append]
      cases rest with
      | nil =>
        refine ifF (decide_eq_false ?_) ?_
        · rw [len]
          show ¬ (codes done).length < (codes done).length + 0
          omega
        · rw [List.append_nil] at er
          subst er
          exact ⟨_, rfl, k _ tl ht⟩
      | cons c rest =>
        obtain ⟨x, hx, hstep⟩ := L.is c (by rw [er]; simp)
        have cne : 0 < (code c).length := List.length_pos_iff.mpr (code_ne hx)
        refine ifT (decide_eq_true ?_) ⟨fun σ' H' => ∃ m', m' < (c :: rest).length ∧ ∃ (done rest : List (List (List Int))) (pl : Addr) (v4 : Option V), raw = done ++ rest ∧ m' = rest.length ∧ σ' = [some (.ref a), some (.ref am), some (.ref ar), some (.ref tl), v4] ∧ Desk (fun b => b ≠ tl) K A H' am pl pd (after Ut09.init done) ar a (codes raw) (codes done).length ∧ H' tl = some (.lst ((PyFlat.told (outs Ut09.init done)).map V.int)) ∧ tl ≠ pl, fun _ _ h => h, ?_⟩
        · rw [len, codes_cons, List.length_append]
          omega
        have hd : (codes raw).drop (codes done).length = code c ++ codes rest := by
          rw [er, codes_append, List.drop_left, codes_cons]
        refine ⟨_, rfl, _, rfl, fun b => b ≠ tl, am, pl, pd, ar, a, after Ut09.init done, codes raw, (codes done).length, c, x, codes rest, rfl, D, hx, hd, ?_⟩
        intro H5 p pl' M5 hpl R5 sb np hp
        obtain ⟨dm4, hm4⟩ := D.m.ins
        obtain ⟨kvs4, hk4, _⟩ := D.m.prs
        have ntl : tl ∉ [am, pl, pd, ar] := by
          intro q
          simp only [List.mem_cons, List.not_mem_nil, or_false] at q
          rcases q with q | q | q | q
          · exact ne_of ht hm4 (by intro q; cases q) q
          · exact tpl q
          · exact ne_of ht hk4 (by intro q; cases q) q
          · exact ne_of ht hr4 (by intro q; cases q) q
        have ht5 := sb.at_ _ _ ht ntl
        have ptl : p ≠ tl := fun q => by
          rw [q, ht] at np
          cases np
        have tpl' : tl ≠ pl' := by
          rcases hpl with q | q
          · rw [q]
            exact tpl
          · intro z
            rw [← z, ht] at q
            cases q
        have ed : doCall (after Ut09.init done) c = Ut09.step (after Ut09.init done) x := hstep _
        have snoc : PyFlat.told (outs Ut09.init (done ++ [c])) = PyFlat.told (outs Ut09.init done) ++ (((Ut09.step (after Ut09.init done) x).2.length : Int) :: (Ut09.step (after Ut09.init done) x).2) := by
          rw [outs_snoc, told_append, told_one, ed]
        have tot : (PyFlat.told (outs Ut09.init (done ++ [c]))).length ≤ 10000000 := by
          have e : raw = (done ++ [c]) ++ rest := by rw [er, List.append_assoc]; rfl
          have := L.short
          rw [e, outs_append, told_append, List.length_append] at this
          omega
        rw [snoc, List.length_append, List.length_cons] at tot
        -- told.append(len(answer))
        refine ⟨_, rfl, .inl ⟨rfl, _, SqL.of ht5⟩, _, rfl, p, _, rfl, .inl (SqL.of hp), tl, _, _, rfl, rfl, ht5, ?_, ?_⟩
        · rw [List.length_map]
          exact Nat.lt_of_lt_of_le (show _ < 10000000 by omega) (by decide)
        -- told.extend(answer)
        refine ⟨_, rfl, .inl ⟨rfl, _, SqL.of upd_same⟩, _, rfl, tl, p, _, _, rfl, rfl, upd_same, (upd_ne ptl).trans hp, ?_, ?_⟩
        · rw [List.length_append, List.length_map, List.length_map]
          exact Nat.le_trans (show _ ≤ 10000000 by simp only [List.length_cons, List.length_nil]; omega) (by decide)
        have sq6 : ∀ o1 o2, SqL K (upd (upd H5 tl o1) tl o2) a (vN (codes raw)) := fun o1 o2 => by
          rcases nal with n | f
          · exact SqL.upd_ne' (SqL.upd_ne' R5.sq n) n
          · exact f _
        have art : ar ≠ tl := ne_of hr4 ht (by intro q; cases q)
        refine ⟨rest.length, by simp, done ++ [c], rest, pl', some (.ref p), by rw [er, List.append_assoc]; rfl, rfl, rfl, ⟨?_, ?_, ⟨?_, sq6 _ _⟩, nne, ?_⟩, ?_, tpl'⟩
        · rw [after_snoc, ed]
          exact (M5.updL ht5 tpl').updL upd_same tpl'
        · rw [after_snoc, ed]
          exact good_step D.g x
        · have e : (codes (done ++ [c])).length = (codes done).length + (code c).length := by
            rw [codes_append, List.length_append, codes_cons]
            simp [codes]
          rw [e]
          obtain ⟨d5, h5⟩ := R5.ins
          exact ⟨d5, (upd_ne art).trans ((upd_ne art).trans h5)⟩
        · intro b h q
          rw [q, upd_same] at h
          cases h
        · rw [upd_same, snoc]
          simp
end
end Pw
set_option Elab.async false
set_option maxRecDepth 100000
set_option maxHeartbeats 4000000
namespace Pw
open PySem L2
theorem all_mk {P : Program} {w : World} {K : PySem.W.Frag} {h : Heap} {mg : Str → Option Value} {fa : Addr} (X : K.In h) (G : h.Ns mainGlobals mg) (hfa : mg "answers" = some (.ref fa))
    {f_Phrase_init : Addr} {od_Phrase_init an_Phrase_init : Option Addr} {sl_Phrase_init : Array (Option Value)} {oc_Phrase_init kV_Phrase_init dc_Phrase_init pm_Phrase_init cd_Phrase_init ct_Phrase_init : Value}
    {f_Machine_init : Addr} {od_Machine_init an_Machine_init : Option Addr} {sl_Machine_init : Array (Option Value)} {oc_Machine_init kV_Machine_init dc_Machine_init pm_Machine_init cd_Machine_init ct_Machine_init : Value}
    {f_Machine_add_phrase : Addr} {od_Machine_add_phrase an_Machine_add_phrase : Option Addr} {sl_Machine_add_phrase : Array (Option Value)} {oc_Machine_add_phrase kV_Machine_add_phrase dc_Machine_add_phrase pm_Machine_add_phrase cd_Machine_add_phrase ct_Machine_add_phrase : Value}
    {f_Machine_drop_phrase : Addr} {od_Machine_drop_phrase an_Machine_drop_phrase : Option Addr} {sl_Machine_drop_phrase : Array (Option Value)} {oc_Machine_drop_phrase kV_Machine_drop_phrase dc_Machine_drop_phrase pm_Machine_drop_phrase cd_Machine_drop_phrase ct_Machine_drop_phrase : Value}
    {f_Machine_phrase_numbered : Addr} {od_Machine_phrase_numbered an_Machine_phrase_numbered : Option Addr} {sl_Machine_phrase_numbered : Array (Option Value)} {oc_Machine_phrase_numbered kV_Machine_phrase_numbered dc_Machine_phrase_numbered pm_Machine_phrase_numbered cd_Machine_phrase_numbered ct_Machine_phrase_numbered : Value}
    {f_Machine_tell_pair : Addr} {od_Machine_tell_pair an_Machine_tell_pair : Option Addr} {sl_Machine_tell_pair : Array (Option Value)} {oc_Machine_tell_pair kV_Machine_tell_pair dc_Machine_tell_pair pm_Machine_tell_pair cd_Machine_tell_pair ct_Machine_tell_pair : Value}
    {f_Machine_set_prices : Addr} {od_Machine_set_prices an_Machine_set_prices : Option Addr} {sl_Machine_set_prices : Array (Option Value)} {oc_Machine_set_prices kV_Machine_set_prices dc_Machine_set_prices pm_Machine_set_prices cd_Machine_set_prices ct_Machine_set_prices : Value}
    {f_Machine_cost_behind : Addr} {od_Machine_cost_behind an_Machine_cost_behind : Option Addr} {sl_Machine_cost_behind : Array (Option Value)} {oc_Machine_cost_behind kV_Machine_cost_behind dc_Machine_cost_behind pm_Machine_cost_behind cd_Machine_cost_behind ct_Machine_cost_behind : Value}
    {f_are_words : Addr} {od_are_words an_are_words : Option Addr} {sl_are_words : Array (Option Value)} {oc_are_words kV_are_words dc_are_words pm_are_words cd_are_words ct_are_words : Value}
    {f_is_sentence : Addr} {od_is_sentence an_is_sentence : Option Addr} {sl_is_sentence : Array (Option Value)} {oc_is_sentence kV_is_sentence dc_is_sentence pm_is_sentence cd_is_sentence ct_is_sentence : Value}
    {f_is_source : Addr} {od_is_source an_is_source : Option Addr} {sl_is_source : Array (Option Value)} {oc_is_source kV_is_source dc_is_source pm_is_source cd_is_source ct_is_source : Value}
    {f_Trail_init : Addr} {od_Trail_init an_Trail_init : Option Addr} {sl_Trail_init : Array (Option Value)} {oc_Trail_init kV_Trail_init dc_Trail_init pm_Trail_init cd_Trail_init ct_Trail_init : Value}
    {f_cheapest_way : Addr} {od_cheapest_way an_cheapest_way : Option Addr} {sl_cheapest_way : Array (Option Value)} {oc_cheapest_way kV_cheapest_way dc_cheapest_way pm_cheapest_way cd_cheapest_way ct_cheapest_way : Value}
    {f_cheapest_way_to_say : Addr} {od_cheapest_way_to_say an_cheapest_way_to_say : Option Addr} {sl_cheapest_way_to_say : Array (Option Value)} {oc_cheapest_way_to_say kV_cheapest_way_to_say dc_cheapest_way_to_say pm_cheapest_way_to_say cd_cheapest_way_to_say ct_cheapest_way_to_say : Value}
    {f_cheapest_sentences : Addr} {od_cheapest_sentences an_cheapest_sentences : Option Addr} {sl_cheapest_sentences : Array (Option Value)} {oc_cheapest_sentences kV_cheapest_sentences dc_cheapest_sentences pm_cheapest_sentences cd_cheapest_sentences ct_cheapest_sentences : Value}
    {f_way_by_steps : Addr} {od_way_by_steps an_way_by_steps : Option Addr} {sl_way_by_steps : Array (Option Value)} {oc_way_by_steps kV_way_by_steps dc_way_by_steps pm_way_by_steps cd_way_by_steps ct_way_by_steps : Value}
    {f_whole_ways : Addr} {od_whole_ways an_whole_ways : Option Addr} {sl_whole_ways : Array (Option Value)} {oc_whole_ways kV_whole_ways dc_whole_ways pm_whole_ways cd_whole_ways ct_whole_ways : Value}
    {f_beginning : Addr} {od_beginning an_beginning : Option Addr} {sl_beginning : Array (Option Value)} {oc_beginning kV_beginning dc_beginning pm_beginning cd_beginning ct_beginning : Value}
    {f_is_whole : Addr} {od_is_whole an_is_whole : Option Addr} {sl_is_whole : Array (Option Value)} {oc_is_whole kV_is_whole dc_is_whole pm_is_whole cd_is_whole ct_is_whole : Value}
    {f_bits_between : Addr} {od_bits_between an_bits_between : Option Addr} {sl_bits_between : Array (Option Value)} {oc_bits_between kV_bits_between dc_bits_between pm_bits_between cd_bits_between ct_bits_between : Value}
    {f_may_become : Addr} {od_may_become an_may_become : Option Addr} {sl_may_become : Array (Option Value)} {oc_may_become kV_may_become dc_may_become pm_may_become cd_may_become ct_may_become : Value}
    {f_last_word : Addr} {od_last_word an_last_word : Option Addr} {sl_last_word : Array (Option Value)} {oc_last_word kV_last_word dc_last_word pm_last_word cd_last_word ct_last_word : Value}
    {f_closed : Addr} {od_closed an_closed : Option Addr} {sl_closed : Array (Option Value)} {oc_closed kV_closed dc_closed pm_closed cd_closed ct_closed : Value}
    {f_order_of : Addr} {od_order_of an_order_of : Option Addr} {sl_order_of : Array (Option Value)} {oc_order_of kV_order_of dc_order_of pm_order_of cd_order_of ct_order_of : Value}
    {f_cheapest_of : Addr} {od_cheapest_of an_cheapest_of : Option Addr} {sl_cheapest_of : Array (Option Value)} {oc_cheapest_of kV_cheapest_of dc_cheapest_of pm_cheapest_of cd_cheapest_of ct_cheapest_of : Value}
    {f_taken_and_last_word : Addr} {od_taken_and_last_word an_taken_and_last_word : Option Addr} {sl_taken_and_last_word : Array (Option Value)} {oc_taken_and_last_word kV_taken_and_last_word dc_taken_and_last_word pm_taken_and_last_word cd_taken_and_last_word ct_taken_and_last_word : Value}
    {f_taken_and_words : Addr} {od_taken_and_words an_taken_and_words : Option Addr} {sl_taken_and_words : Array (Option Value)} {oc_taken_and_words kV_taken_and_words dc_taken_and_words pm_taken_and_words cd_taken_and_words ct_taken_and_words : Value}
    {f_words_of : Addr} {od_words_of an_words_of : Option Addr} {sl_words_of : Array (Option Value)} {oc_words_of kV_words_of dc_words_of pm_words_of cd_words_of ct_words_of : Value}
    {f_first_of_each : Addr} {od_first_of_each an_first_of_each : Option Addr} {sl_first_of_each : Array (Option Value)} {oc_first_of_each kV_first_of_each dc_first_of_each pm_first_of_each cd_first_of_each ct_first_of_each : Value}
    {f_longer_trails : Addr} {od_longer_trails an_longer_trails : Option Addr} {sl_longer_trails : Array (Option Value)} {oc_longer_trails kV_longer_trails dc_longer_trails pm_longer_trails cd_longer_trails ct_longer_trails : Value}
    {f_may_step : Addr} {od_may_step an_may_step : Option Addr} {sl_may_step : Array (Option Value)} {oc_may_step kV_may_step dc_may_step pm_may_step cd_may_step ct_may_step : Value}
    {f_stepped : Addr} {od_stepped an_stepped : Option Addr} {sl_stepped : Array (Option Value)} {oc_stepped kV_stepped dc_stepped pm_stepped cd_stepped ct_stepped : Value}
    {f_cost_of_words : Addr} {od_cost_of_words an_cost_of_words : Option Addr} {sl_cost_of_words : Array (Option Value)} {oc_cost_of_words kV_cost_of_words dc_cost_of_words pm_cost_of_words cd_cost_of_words ct_cost_of_words : Value}
    {f_Reader_init : Addr} {od_Reader_init an_Reader_init : Option Addr} {sl_Reader_init : Array (Option Value)} {oc_Reader_init kV_Reader_init dc_Reader_init pm_Reader_init cd_Reader_init ct_Reader_init : Value}
    {f_Reader_has_more : Addr} {od_Reader_has_more an_Reader_has_more : Option Addr} {sl_Reader_has_more : Array (Option Value)} {oc_Reader_has_more kV_Reader_has_more dc_Reader_has_more pm_Reader_has_more cd_Reader_has_more ct_Reader_has_more : Value}
    {f_Reader_take : Addr} {od_Reader_take an_Reader_take : Option Addr} {sl_Reader_take : Array (Option Value)} {oc_Reader_take kV_Reader_take dc_Reader_take pm_Reader_take cd_Reader_take ct_Reader_take : Value}
    {f_Reader_take_row : Addr} {od_Reader_take_row an_Reader_take_row : Option Addr} {sl_Reader_take_row : Array (Option Value)} {oc_Reader_take_row kV_Reader_take_row dc_Reader_take_row pm_Reader_take_row cd_Reader_take_row ct_Reader_take_row : Value}
    {f_answers : Addr} {od_answers an_answers : Option Addr} {sl_answers : Array (Option Value)} {oc_answers kV_answers dc_answers pm_answers cd_answers ct_answers : Value}
    {f_answer_call : Addr} {od_answer_call an_answer_call : Option Addr} {sl_answer_call : Array (Option Value)} {oc_answer_call kV_answer_call dc_answer_call pm_answer_call cd_answer_call ct_answer_call : Value}
    {f_answer_phrase : Addr} {od_answer_phrase an_answer_phrase : Option Addr} {sl_answer_phrase : Array (Option Value)} {oc_answer_phrase kV_answer_phrase dc_answer_phrase pm_answer_phrase cd_answer_phrase ct_answer_phrase : Value}
    {f_answer_pair : Addr} {od_answer_pair an_answer_pair : Option Addr} {sl_answer_pair : Array (Option Value)} {oc_answer_pair kV_answer_pair dc_answer_pair pm_answer_pair cd_answer_pair ct_answer_pair : Value}
    {f_answer_prices : Addr} {od_answer_prices an_answer_prices : Option Addr} {sl_answer_prices : Array (Option Value)} {oc_answer_prices kV_answer_prices dc_answer_prices pm_answer_prices cd_answer_prices ct_answer_prices : Value}
    {f_answer_translate : Addr} {od_answer_translate an_answer_translate : Option Addr} {sl_answer_translate : Array (Option Value)} {oc_answer_translate kV_answer_translate dc_answer_translate pm_answer_translate cd_answer_translate ct_answer_translate : Value}
    {f_answer_force : Addr} {od_answer_force an_answer_force : Option Addr} {sl_answer_force : Array (Option Value)} {oc_answer_force kV_answer_force dc_answer_force pm_answer_force cd_answer_force ct_answer_force : Value}
    {f_answer_cost : Addr} {od_answer_cost an_answer_cost : Option Addr} {sl_answer_cost : Array (Option Value)} {oc_answer_cost kV_answer_cost dc_answer_cost pm_answer_cost cd_answer_cost ct_answer_cost : Value}
    {f_answer_some : Addr} {od_answer_some an_answer_some : Option Addr} {sl_answer_some : Array (Option Value)} {oc_answer_some kV_answer_some dc_answer_some pm_answer_some cd_answer_some ct_answer_some : Value}
    {f_told_phrases : Addr} {od_told_phrases an_told_phrases : Option Addr} {sl_told_phrases : Array (Option Value)} {oc_told_phrases kV_told_phrases dc_told_phrases pm_told_phrases cd_told_phrases ct_told_phrases : Value}
    {f_told_way_if_any : Addr} {od_told_way_if_any an_told_way_if_any : Option Addr} {sl_told_way_if_any : Array (Option Value)} {oc_told_way_if_any kV_told_way_if_any dc_told_way_if_any pm_told_way_if_any cd_told_way_if_any ct_told_way_if_any : Value}
    {f_told_way : Addr} {od_told_way an_told_way : Option Addr} {sl_told_way : Array (Option Value)} {oc_told_way kV_told_way dc_told_way pm_told_way cd_told_way ct_told_way : Value}
    {f_counted : Addr} {od_counted an_counted : Option Addr} {sl_counted : Array (Option Value)} {oc_counted kV_counted dc_counted pm_counted cd_counted ct_counted : Value}
    {C_Phrase : Addr}
    {C_Machine : Addr}
    {C_Trail : Addr}
    {C_Reader : Addr}
    {t_WRONG : Tok}
    {t_NO_SUCH_PHRASE : Tok}
    {t_FULL : Tok}
    {t_NO_WAY : Tok}
    {t_HIGHEST_WORD : Tok}
    {t_HIGHEST_COST : Tok}
    {t_LONGEST_SOURCE : Tok}
    {t_LONGEST_TARGET : Tok}
    {t_WIDEST : Tok}
    {t_MOST_PHRASES : Tok}
    {t_MOST_PAIRS : Tok}
    {t_NO_MORE : Tok}
    {t_PHRASE : Tok}
    {t_GONE : Tok}
    {t_PAIR : Tok}
    {t_PRICES : Tok}
    {t_TRANSLATE : Tok}
    {t_FORCE : Tok}
    {t_COST : Tok}
    {t_SOME : Tok}
    {t_PHRASES : Tok}
    {t_LONGEST_SENTENCE : Tok}
    {t_LONGEST_SAID : Tok}
    {t_LONGEST_FOR_SOME : Tok}
    {t_MOST_STEPS : Tok}
    {t_MOST_SENTENCES : Tok}
    (aC_Phrase : PySem.W.nsIn K mainGlobals "Phrase" = some (some (.ref C_Phrase)))
    (aC_Machine : PySem.W.nsIn K mainGlobals "Machine" = some (some (.ref C_Machine)))
    (aC_Trail : PySem.W.nsIn K mainGlobals "Trail" = some (some (.ref C_Trail)))
    (aC_Reader : PySem.W.nsIn K mainGlobals "Reader" = some (some (.ref C_Reader)))
    (a_Phrase_init : PySem.W.findIn K (.ref C_Phrase) "__init__" = some (some (.ref f_Phrase_init)))
    (i_Phrase_init : PySem.W.isFn K (.ref f_Phrase_init) = true)
    (l_Phrase_init : K.lookup f_Phrase_init = some ⟨oc_Phrase_init, od_Phrase_init, .func (PySem.W.fnOf "__init__" "Phrase.__init__" (defArgs s_Phrase_init) (defBody s_Phrase_init) (defScope s_Phrase_init) .none kV_Phrase_init dc_Phrase_init pm_Phrase_init an_Phrase_init cd_Phrase_init ct_Phrase_init), sl_Phrase_init⟩)
    (c_Phrase_init : PySem.W.codeIn K cd_Phrase_init "Phrase.__init__" = true)
    (k_Phrase_init : PySem.W.keepIn K (.ref f_Phrase_init) = true)
    (a_Machine_init : PySem.W.findIn K (.ref C_Machine) "__init__" = some (some (.ref f_Machine_init)))
    (i_Machine_init : PySem.W.isFn K (.ref f_Machine_init) = true)
    (l_Machine_init : K.lookup f_Machine_init = some ⟨oc_Machine_init, od_Machine_init, .func (PySem.W.fnOf "__init__" "Machine.__init__" (defArgs s_Machine_init) (defBody s_Machine_init) (defScope s_Machine_init) .none kV_Machine_init dc_Machine_init pm_Machine_init an_Machine_init cd_Machine_init ct_Machine_init), sl_Machine_init⟩)
    (c_Machine_init : PySem.W.codeIn K cd_Machine_init "Machine.__init__" = true)
    (k_Machine_init : PySem.W.keepIn K (.ref f_Machine_init) = true)
    (a_Machine_add_phrase : PySem.W.findIn K (.ref C_Machine) "add_phrase" = some (some (.ref f_Machine_add_phrase)))
    (i_Machine_add_phrase : PySem.W.isFn K (.ref f_Machine_add_phrase) = true)
    (l_Machine_add_phrase : K.lookup f_Machine_add_phrase = some ⟨oc_Machine_add_phrase, od_Machine_add_phrase, .func (PySem.W.fnOf "add_phrase" "Machine.add_phrase" (defArgs s_Machine_add_phrase) (defBody s_Machine_add_phrase) (defScope s_Machine_add_phrase) .none kV_Machine_add_phrase dc_Machine_add_phrase pm_Machine_add_phrase an_Machine_add_phrase cd_Machine_add_phrase ct_Machine_add_phrase), sl_Machine_add_phrase⟩)
    (c_Machine_add_phrase : PySem.W.codeIn K cd_Machine_add_phrase "Machine.add_phrase" = true)
    (k_Machine_add_phrase : PySem.W.keepIn K (.ref f_Machine_add_phrase) = true)
    (a_Machine_drop_phrase : PySem.W.findIn K (.ref C_Machine) "drop_phrase" = some (some (.ref f_Machine_drop_phrase)))
    (i_Machine_drop_phrase : PySem.W.isFn K (.ref f_Machine_drop_phrase) = true)
    (l_Machine_drop_phrase : K.lookup f_Machine_drop_phrase = some ⟨oc_Machine_drop_phrase, od_Machine_drop_phrase, .func (PySem.W.fnOf "drop_phrase" "Machine.drop_phrase" (defArgs s_Machine_drop_phrase) (defBody s_Machine_drop_phrase) (defScope s_Machine_drop_phrase) .none kV_Machine_drop_phrase dc_Machine_drop_phrase pm_Machine_drop_phrase an_Machine_drop_phrase cd_Machine_drop_phrase ct_Machine_drop_phrase), sl_Machine_drop_phrase⟩)
    (c_Machine_drop_phrase : PySem.W.codeIn K cd_Machine_drop_phrase "Machine.drop_phrase" = true)
    (k_Machine_drop_phrase : PySem.W.keepIn K (.ref f_Machine_drop_phrase) = true)
    (a_Machine_phrase_numbered : PySem.W.findIn K (.ref C_Machine) "phrase_numbered" = some (some (.ref f_Machine_phrase_numbered)))
    (i_Machine_phrase_numbered : PySem.W.isFn K (.ref f_Machine_phrase_numbered) = true)
    (l_Machine_phrase_numbered : K.lookup f_Machine_phrase_numbered = some ⟨oc_Machine_phrase_numbered, od_Machine_phrase_numbered, .func (PySem.W.fnOf "phrase_numbered" "Machine.phrase_numbered" (defArgs s_Machine_phrase_numbered) (defBody s_Machine_phrase_numbered) (defScope s_Machine_phrase_numbered) .none kV_Machine_phrase_numbered dc_Machine_phrase_numbered pm_Machine_phrase_numbered an_Machine_phrase_numbered cd_Machine_phrase_numbered ct_Machine_phrase_numbered), sl_Machine_phrase_numbered⟩)
    (c_Machine_phrase_numbered : PySem.W.codeIn K cd_Machine_phrase_numbered "Machine.phrase_numbered" = true)
    (k_Machine_phrase_numbered : PySem.W.keepIn K (.ref f_Machine_phrase_numbered) = true)
    (a_Machine_tell_pair : PySem.W.findIn K (.ref C_Machine) "tell_pair" = some (some (.ref f_Machine_tell_pair)))
    (i_Machine_tell_pair : PySem.W.isFn K (.ref f_Machine_tell_pair) = true)
    (l_Machine_tell_pair : K.lookup f_Machine_tell_pair = some ⟨oc_Machine_tell_pair, od_Machine_tell_pair, .func (PySem.W.fnOf "tell_pair" "Machine.tell_pair" (defArgs s_Machine_tell_pair) (defBody s_Machine_tell_pair) (defScope s_Machine_tell_pair) .none kV_Machine_tell_pair dc_Machine_tell_pair pm_Machine_tell_pair an_Machine_tell_pair cd_Machine_tell_pair ct_Machine_tell_pair), sl_Machine_tell_pair⟩)
    (c_Machine_tell_pair : PySem.W.codeIn K cd_Machine_tell_pair "Machine.tell_pair" = true)
    (k_Machine_tell_pair : PySem.W.keepIn K (.ref f_Machine_tell_pair) = true)
    (a_Machine_set_prices : PySem.W.findIn K (.ref C_Machine) "set_prices" = some (some (.ref f_Machine_set_prices)))
    (i_Machine_set_prices : PySem.W.isFn K (.ref f_Machine_set_prices) = true)
    (l_Machine_set_prices : K.lookup f_Machine_set_prices = some ⟨oc_Machine_set_prices, od_Machine_set_prices, .func (PySem.W.fnOf "set_prices" "Machine.set_prices" (defArgs s_Machine_set_prices) (defBody s_Machine_set_prices) (defScope s_Machine_set_prices) .none kV_Machine_set_prices dc_Machine_set_prices pm_Machine_set_prices an_Machine_set_prices cd_Machine_set_prices ct_Machine_set_prices), sl_Machine_set_prices⟩)
    (c_Machine_set_prices : PySem.W.codeIn K cd_Machine_set_prices "Machine.set_prices" = true)
    (k_Machine_set_prices : PySem.W.keepIn K (.ref f_Machine_set_prices) = true)
    (a_Machine_cost_behind : PySem.W.findIn K (.ref C_Machine) "cost_behind" = some (some (.ref f_Machine_cost_behind)))
    (i_Machine_cost_behind : PySem.W.isFn K (.ref f_Machine_cost_behind) = true)
    (l_Machine_cost_behind : K.lookup f_Machine_cost_behind = some ⟨oc_Machine_cost_behind, od_Machine_cost_behind, .func (PySem.W.fnOf "cost_behind" "Machine.cost_behind" (defArgs s_Machine_cost_behind) (defBody s_Machine_cost_behind) (defScope s_Machine_cost_behind) .none kV_Machine_cost_behind dc_Machine_cost_behind pm_Machine_cost_behind an_Machine_cost_behind cd_Machine_cost_behind ct_Machine_cost_behind), sl_Machine_cost_behind⟩)
    (c_Machine_cost_behind : PySem.W.codeIn K cd_Machine_cost_behind "Machine.cost_behind" = true)
    (k_Machine_cost_behind : PySem.W.keepIn K (.ref f_Machine_cost_behind) = true)
    (a_are_words : PySem.W.nsIn K mainGlobals "are_words" = some (some (.ref f_are_words)))
    (l_are_words : K.lookup f_are_words = some ⟨oc_are_words, od_are_words, .func (PySem.W.fnOf "are_words" "are_words" (defArgs s_are_words) (defBody s_are_words) (defScope s_are_words) .none kV_are_words dc_are_words pm_are_words an_are_words cd_are_words ct_are_words), sl_are_words⟩)
    (c_are_words : PySem.W.codeIn K cd_are_words "are_words" = true)
    (k_are_words : PySem.W.keepIn K (.ref f_are_words) = true)
    (a_is_sentence : PySem.W.nsIn K mainGlobals "is_sentence" = some (some (.ref f_is_sentence)))
    (l_is_sentence : K.lookup f_is_sentence = some ⟨oc_is_sentence, od_is_sentence, .func (PySem.W.fnOf "is_sentence" "is_sentence" (defArgs s_is_sentence) (defBody s_is_sentence) (defScope s_is_sentence) .none kV_is_sentence dc_is_sentence pm_is_sentence an_is_sentence cd_is_sentence ct_is_sentence), sl_is_sentence⟩)
    (c_is_sentence : PySem.W.codeIn K cd_is_sentence "is_sentence" = true)
    (k_is_sentence : PySem.W.keepIn K (.ref f_is_sentence) = true)
    (a_is_source : PySem.W.nsIn K mainGlobals "is_source" = some (some (.ref f_is_source)))
    (l_is_source : K.lookup f_is_source = some ⟨oc_is_source, od_is_source, .func (PySem.W.fnOf "is_source" "is_source" (defArgs s_is_source) (defBody s_is_source) (defScope s_is_source) .none kV_is_source dc_is_source pm_is_source an_is_source cd_is_source ct_is_source), sl_is_source⟩)
    (c_is_source : PySem.W.codeIn K cd_is_source "is_source" = true)
    (k_is_source : PySem.W.keepIn K (.ref f_is_source) = true)
    (a_Trail_init : PySem.W.findIn K (.ref C_Trail) "__init__" = some (some (.ref f_Trail_init)))
    (i_Trail_init : PySem.W.isFn K (.ref f_Trail_init) = true)
    (l_Trail_init : K.lookup f_Trail_init = some ⟨oc_Trail_init, od_Trail_init, .func (PySem.W.fnOf "__init__" "Trail.__init__" (defArgs s_Trail_init) (defBody s_Trail_init) (defScope s_Trail_init) .none kV_Trail_init dc_Trail_init pm_Trail_init an_Trail_init cd_Trail_init ct_Trail_init), sl_Trail_init⟩)
    (c_Trail_init : PySem.W.codeIn K cd_Trail_init "Trail.__init__" = true)
    (k_Trail_init : PySem.W.keepIn K (.ref f_Trail_init) = true)
    (a_cheapest_way : PySem.W.nsIn K mainGlobals "cheapest_way" = some (some (.ref f_cheapest_way)))
    (l_cheapest_way : K.lookup f_cheapest_way = some ⟨oc_cheapest_way, od_cheapest_way, .func (PySem.W.fnOf "cheapest_way" "cheapest_way" (defArgs s_cheapest_way) (defBody s_cheapest_way) (defScope s_cheapest_way) .none kV_cheapest_way dc_cheapest_way pm_cheapest_way an_cheapest_way cd_cheapest_way ct_cheapest_way), sl_cheapest_way⟩)
    (c_cheapest_way : PySem.W.codeIn K cd_cheapest_way "cheapest_way" = true)
    (k_cheapest_way : PySem.W.keepIn K (.ref f_cheapest_way) = true)
    (a_cheapest_way_to_say : PySem.W.nsIn K mainGlobals "cheapest_way_to_say" = some (some (.ref f_cheapest_way_to_say)))
    (l_cheapest_way_to_say : K.lookup f_cheapest_way_to_say = some ⟨oc_cheapest_way_to_say, od_cheapest_way_to_say, .func (PySem.W.fnOf "cheapest_way_to_say" "cheapest_way_to_say" (defArgs s_cheapest_way_to_say) (defBody s_cheapest_way_to_say) (defScope s_cheapest_way_to_say) .none kV_cheapest_way_to_say dc_cheapest_way_to_say pm_cheapest_way_to_say an_cheapest_way_to_say cd_cheapest_way_to_say ct_cheapest_way_to_say), sl_cheapest_way_to_say⟩)
    (c_cheapest_way_to_say : PySem.W.codeIn K cd_cheapest_way_to_say "cheapest_way_to_say" = true)
    (k_cheapest_way_to_say : PySem.W.keepIn K (.ref f_cheapest_way_to_say) = true)
    (a_cheapest_sentences : PySem.W.nsIn K mainGlobals "cheapest_sentences" = some (some (.ref f_cheapest_sentences)))
    (l_cheapest_sentences : K.lookup f_cheapest_sentences = some ⟨oc_cheapest_sentences, od_cheapest_sentences, .func (PySem.W.fnOf "cheapest_sentences" "cheapest_sentences" (defArgs s_cheapest_sentences) (defBody s_cheapest_sentences) (defScope s_cheapest_sentences) .none kV_cheapest_sentences dc_cheapest_sentences pm_cheapest_sentences an_cheapest_sentences cd_cheapest_sentences ct_cheapest_sentences), sl_cheapest_sentences⟩)
    (c_cheapest_sentences : PySem.W.codeIn K cd_cheapest_sentences "cheapest_sentences" = true)
    (k_cheapest_sentences : PySem.W.keepIn K (.ref f_cheapest_sentences) = true)
    (a_way_by_steps : PySem.W.nsIn K mainGlobals "way_by_steps" = some (some (.ref f_way_by_steps)))
    (l_way_by_steps : K.lookup f_way_by_steps = some ⟨oc_way_by_steps, od_way_by_steps, .func (PySem.W.fnOf "way_by_steps" "way_by_steps" (defArgs s_way_by_steps) (defBody s_way_by_steps) (defScope s_way_by_steps) .none kV_way_by_steps dc_way_by_steps pm_way_by_steps an_way_by_steps cd_way_by_steps ct_way_by_steps), sl_way_by_steps⟩)
    (c_way_by_steps : PySem.W.codeIn K cd_way_by_steps "way_by_steps" = true)
    (k_way_by_steps : PySem.W.keepIn K (.ref f_way_by_steps) = true)
    (a_whole_ways : PySem.W.nsIn K mainGlobals "whole_ways" = some (some (.ref f_whole_ways)))
    (l_whole_ways : K.lookup f_whole_ways = some ⟨oc_whole_ways, od_whole_ways, .func (PySem.W.fnOf "whole_ways" "whole_ways" (defArgs s_whole_ways) (defBody s_whole_ways) (defScope s_whole_ways) .none kV_whole_ways dc_whole_ways pm_whole_ways an_whole_ways cd_whole_ways ct_whole_ways), sl_whole_ways⟩)
    (c_whole_ways : PySem.W.codeIn K cd_whole_ways "whole_ways" = true)
    (k_whole_ways : PySem.W.keepIn K (.ref f_whole_ways) = true)
    (a_beginning : PySem.W.nsIn K mainGlobals "beginning" = some (some (.ref f_beginning)))
    (l_beginning : K.lookup f_beginning = some ⟨oc_beginning, od_beginning, .func (PySem.W.fnOf "beginning" "beginning" (defArgs s_beginning) (defBody s_beginning) (defScope s_beginning) .none kV_beginning dc_beginning pm_beginning an_beginning cd_beginning ct_beginning), sl_beginning⟩)
    (c_beginning : PySem.W.codeIn K cd_beginning "beginning" = true)
    (k_beginning : PySem.W.keepIn K (.ref f_beginning) = true)
    (a_is_whole : PySem.W.nsIn K mainGlobals "is_whole" = some (some (.ref f_is_whole)))
    (l_is_whole : K.lookup f_is_whole = some ⟨oc_is_whole, od_is_whole, .func (PySem.W.fnOf "is_whole" "is_whole" (defArgs s_is_whole) (defBody s_is_whole) (defScope s_is_whole) .none kV_is_whole dc_is_whole pm_is_whole an_is_whole cd_is_whole ct_is_whole), sl_is_whole⟩)
    (c_is_whole : PySem.W.codeIn K cd_is_whole "is_whole" = true)
    (k_is_whole : PySem.W.keepIn K (.ref f_is_whole) = true)
    (a_bits_between : PySem.W.nsIn K mainGlobals "bits_between" = some (some (.ref f_bits_between)))
    (l_bits_between : K.lookup f_bits_between = some ⟨oc_bits_between, od_bits_between, .func (PySem.W.fnOf "bits_between" "bits_between" (defArgs s_bits_between) (defBody s_bits_between) (defScope s_bits_between) .none kV_bits_between dc_bits_between pm_bits_between an_bits_between cd_bits_between ct_bits_between), sl_bits_between⟩)
    (c_bits_between : PySem.W.codeIn K cd_bits_between "bits_between" = true)
    (k_bits_between : PySem.W.keepIn K (.ref f_bits_between) = true)
    (a_may_become : PySem.W.nsIn K mainGlobals "may_become" = some (some (.ref f_may_become)))
    (l_may_become : K.lookup f_may_become = some ⟨oc_may_become, od_may_become, .func (PySem.W.fnOf "may_become" "may_become" (defArgs s_may_become) (defBody s_may_become) (defScope s_may_become) .none kV_may_become dc_may_become pm_may_become an_may_become cd_may_become ct_may_become), sl_may_become⟩)
    (c_may_become : PySem.W.codeIn K cd_may_become "may_become" = true)
    (k_may_become : PySem.W.keepIn K (.ref f_may_become) = true)
    (a_last_word : PySem.W.nsIn K mainGlobals "last_word" = some (some (.ref f_last_word)))
    (l_last_word : K.lookup f_last_word = some ⟨oc_last_word, od_last_word, .func (PySem.W.fnOf "last_word" "last_word" (defArgs s_last_word) (defBody s_last_word) (defScope s_last_word) .none kV_last_word dc_last_word pm_last_word an_last_word cd_last_word ct_last_word), sl_last_word⟩)
    (c_last_word : PySem.W.codeIn K cd_last_word "last_word" = true)
    (k_last_word : PySem.W.keepIn K (.ref f_last_word) = true)
    (a_closed : PySem.W.nsIn K mainGlobals "closed" = some (some (.ref f_closed)))
    (l_closed : K.lookup f_closed = some ⟨oc_closed, od_closed, .func (PySem.W.fnOf "closed" "closed" (defArgs s_closed) (defBody s_closed) (defScope s_closed) .none kV_closed dc_closed pm_closed an_closed cd_closed ct_closed), sl_closed⟩)
    (c_closed : PySem.W.codeIn K cd_closed "closed" = true)
    (k_closed : PySem.W.keepIn K (.ref f_closed) = true)
    (a_order_of : PySem.W.nsIn K mainGlobals "order_of" = some (some (.ref f_order_of)))
    (l_order_of : K.lookup f_order_of = some ⟨oc_order_of, od_order_of, .func (PySem.W.fnOf "order_of" "order_of" (defArgs s_order_of) (defBody s_order_of) (defScope s_order_of) .none kV_order_of dc_order_of pm_order_of an_order_of cd_order_of ct_order_of), sl_order_of⟩)
    (c_order_of : PySem.W.codeIn K cd_order_of "order_of" = true)
    (k_order_of : PySem.W.keepIn K (.ref f_order_of) = true)
    (a_cheapest_of : PySem.W.nsIn K mainGlobals "cheapest_of" = some (some (.ref f_cheapest_of)))
    (l_cheapest_of : K.lookup f_cheapest_of = some ⟨oc_cheapest_of, od_cheapest_of, .func (PySem.W.fnOf "cheapest_of" "cheapest_of" (defArgs s_cheapest_of) (defBody s_cheapest_of) (defScope s_cheapest_of) .none kV_cheapest_of dc_cheapest_of pm_cheapest_of an_cheapest_of cd_cheapest_of ct_cheapest_of), sl_cheapest_of⟩)
    (c_cheapest_of : PySem.W.codeIn K cd_cheapest_of "cheapest_of" = true)
    (k_cheapest_of : PySem.W.keepIn K (.ref f_cheapest_of) = true)
    (a_taken_and_last_word : PySem.W.nsIn K mainGlobals "taken_and_last_word" = some (some (.ref f_taken_and_last_word)))
    (l_taken_and_last_word : K.lookup f_taken_and_last_word = some ⟨oc_taken_and_last_word, od_taken_and_last_word, .func (PySem.W.fnOf "taken_and_last_word" "taken_and_last_word" (defArgs s_taken_and_last_word) (defBody s_taken_and_last_word) (defScope s_taken_and_last_word) .none kV_taken_and_last_word dc_taken_and_last_word pm_taken_and_last_word an_taken_and_last_word cd_taken_and_last_word ct_taken_and_last_word), sl_taken_and_last_word⟩)
    (c_taken_and_last_word : PySem.W.codeIn K cd_taken_and_last_word "taken_and_last_word" = true)
    (k_taken_and_last_word : PySem.W.keepIn K (.ref f_taken_and_last_word) = true)
    (a_taken_and_words : PySem.W.nsIn K mainGlobals "taken_and_words" = some (some (.ref f_taken_and_words)))
    (l_taken_and_words : K.lookup f_taken_and_words = some ⟨oc_taken_and_words, od_taken_and_words, .func (PySem.W.fnOf "taken_and_words" "taken_and_words" (defArgs s_taken_and_words) (defBody s_taken_and_words) (defScope s_taken_and_words) .none kV_taken_and_words dc_taken_and_words pm_taken_and_words an_taken_and_words cd_taken_and_words ct_taken_and_words), sl_taken_and_words⟩)
    (c_taken_and_words : PySem.W.codeIn K cd_taken_and_words "taken_and_words" = true)
    (k_taken_and_words : PySem.W.keepIn K (.ref f_taken_and_words) = true)
    (a_words_of : PySem.W.nsIn K mainGlobals "words_of" = some (some (.ref f_words_of)))
    (l_words_of : K.lookup f_words_of = some ⟨oc_words_of, od_words_of, .func (PySem.W.fnOf "words_of" "words_of" (defArgs s_words_of) (defBody s_words_of) (defScope s_words_of) .none kV_words_of dc_words_of pm_words_of an_words_of cd_words_of ct_words_of), sl_words_of⟩)
    (c_words_of : PySem.W.codeIn K cd_words_of "words_of" = true)
    (k_words_of : PySem.W.keepIn K (.ref f_words_of) = true)
    (a_first_of_each : PySem.W.nsIn K mainGlobals "first_of_each" = some (some (.ref f_first_of_each)))
    (l_first_of_each : K.lookup f_first_of_each = some ⟨oc_first_of_each, od_first_of_each, .func (PySem.W.fnOf "first_of_each" "first_of_each" (defArgs s_first_of_each) (defBody s_first_of_each) (defScope s_first_of_each) .none kV_first_of_each dc_first_of_each pm_first_of_each an_first_of_each cd_first_of_each ct_first_of_each), sl_first_of_each⟩)
    (c_first_of_each : PySem.W.codeIn K cd_first_of_each "first_of_each" = true)
    (k_first_of_each : PySem.W.keepIn K (.ref f_first_of_each) = true)
    (a_longer_trails : PySem.W.nsIn K mainGlobals "longer_trails" = some (some (.ref f_longer_trails)))
    (l_longer_trails : K.lookup f_longer_trails = some ⟨oc_longer_trails, od_longer_trails, .func (PySem.W.fnOf "longer_trails" "longer_trails" (defArgs s_longer_trails) (defBody s_longer_trails) (defScope s_longer_trails) .none kV_longer_trails dc_longer_trails pm_longer_trails an_longer_trails cd_longer_trails ct_longer_trails), sl_longer_trails⟩)
    (c_longer_trails : PySem.W.codeIn K cd_longer_trails "longer_trails" = true)
    (k_longer_trails : PySem.W.keepIn K (.ref f_longer_trails) = true)
    (a_may_step : PySem.W.nsIn K mainGlobals "may_step" = some (some (.ref f_may_step)))
    (l_may_step : K.lookup f_may_step = some ⟨oc_may_step, od_may_step, .func (PySem.W.fnOf "may_step" "may_step" (defArgs s_may_step) (defBody s_may_step) (defScope s_may_step) .none kV_may_step dc_may_step pm_may_step an_may_step cd_may_step ct_may_step), sl_may_step⟩)
    (c_may_step : PySem.W.codeIn K cd_may_step "may_step" = true)
    (k_may_step : PySem.W.keepIn K (.ref f_may_step) = true)
    (a_stepped : PySem.W.nsIn K mainGlobals "stepped" = some (some (.ref f_stepped)))
    (l_stepped : K.lookup f_stepped = some ⟨oc_stepped, od_stepped, .func (PySem.W.fnOf "stepped" "stepped" (defArgs s_stepped) (defBody s_stepped) (defScope s_stepped) .none kV_stepped dc_stepped pm_stepped an_stepped cd_stepped ct_stepped), sl_stepped⟩)
    (c_stepped : PySem.W.codeIn K cd_stepped "stepped" = true)
    (k_stepped : PySem.W.keepIn K (.ref f_stepped) = true)
    (a_cost_of_words : PySem.W.nsIn K mainGlobals "cost_of_words" = some (some (.ref f_cost_of_words)))
    (l_cost_of_words : K.lookup f_cost_of_words = some ⟨oc_cost_of_words, od_cost_of_words, .func (PySem.W.fnOf "cost_of_words" "cost_of_words" (defArgs s_cost_of_words) (defBody s_cost_of_words) (defScope s_cost_of_words) .none kV_cost_of_words dc_cost_of_words pm_cost_of_words an_cost_of_words cd_cost_of_words ct_cost_of_words), sl_cost_of_words⟩)
    (c_cost_of_words : PySem.W.codeIn K cd_cost_of_words "cost_of_words" = true)
    (k_cost_of_words : PySem.W.keepIn K (.ref f_cost_of_words) = true)
    (a_Reader_init : PySem.W.findIn K (.ref C_Reader) "__init__" = some (some (.ref f_Reader_init)))
    (i_Reader_init : PySem.W.isFn K (.ref f_Reader_init) = true)
    (l_Reader_init : K.lookup f_Reader_init = some ⟨oc_Reader_init, od_Reader_init, .func (PySem.W.fnOf "__init__" "Reader.__init__" (defArgs s_Reader_init) (defBody s_Reader_init) (defScope s_Reader_init) .none kV_Reader_init dc_Reader_init pm_Reader_init an_Reader_init cd_Reader_init ct_Reader_init), sl_Reader_init⟩)
    (c_Reader_init : PySem.W.codeIn K cd_Reader_init "Reader.__init__" = true)
    (k_Reader_init : PySem.W.keepIn K (.ref f_Reader_init) = true)
    (a_Reader_has_more : PySem.W.findIn K (.ref C_Reader) "has_more" = some (some (.ref f_Reader_has_more)))
    (i_Reader_has_more : PySem.W.isFn K (.ref f_Reader_has_more) = true)
    (l_Reader_has_more : K.lookup f_Reader_has_more = some ⟨oc_Reader_has_more, od_Reader_has_more, .func (PySem.W.fnOf "has_more" "Reader.has_more" (defArgs s_Reader_has_more) (defBody s_Reader_has_more) (defScope s_Reader_has_more) .none kV_Reader_has_more dc_Reader_has_more pm_Reader_has_more an_Reader_has_more cd_Reader_has_more ct_Reader_has_more), sl_Reader_has_more⟩)
    (c_Reader_has_more : PySem.W.codeIn K cd_Reader_has_more "Reader.has_more" = true)
    (k_Reader_has_more : PySem.W.keepIn K (.ref f_Reader_has_more) = true)
    (a_Reader_take : PySem.W.findIn K (.ref C_Reader) "take" = some (some (.ref f_Reader_take)))
    (i_Reader_take : PySem.W.isFn K (.ref f_Reader_take) = true)
    (l_Reader_take : K.lookup f_Reader_take = some ⟨oc_Reader_take, od_Reader_take, .func (PySem.W.fnOf "take" "Reader.take" (defArgs s_Reader_take) (defBody s_Reader_take) (defScope s_Reader_take) .none kV_Reader_take dc_Reader_take pm_Reader_take an_Reader_take cd_Reader_take ct_Reader_take), sl_Reader_take⟩)
    (c_Reader_take : PySem.W.codeIn K cd_Reader_take "Reader.take" = true)
    (k_Reader_take : PySem.W.keepIn K (.ref f_Reader_take) = true)
    (a_Reader_take_row : PySem.W.findIn K (.ref C_Reader) "take_row" = some (some (.ref f_Reader_take_row)))
    (i_Reader_take_row : PySem.W.isFn K (.ref f_Reader_take_row) = true)
    (l_Reader_take_row : K.lookup f_Reader_take_row = some ⟨oc_Reader_take_row, od_Reader_take_row, .func (PySem.W.fnOf "take_row" "Reader.take_row" (defArgs s_Reader_take_row) (defBody s_Reader_take_row) (defScope s_Reader_take_row) .none kV_Reader_take_row dc_Reader_take_row pm_Reader_take_row an_Reader_take_row cd_Reader_take_row ct_Reader_take_row), sl_Reader_take_row⟩)
    (c_Reader_take_row : PySem.W.codeIn K cd_Reader_take_row "Reader.take_row" = true)
    (k_Reader_take_row : PySem.W.keepIn K (.ref f_Reader_take_row) = true)
    (a_answers : PySem.W.nsIn K mainGlobals "answers" = some (some (.ref f_answers)))
    (l_answers : K.lookup f_answers = some ⟨oc_answers, od_answers, .func (PySem.W.fnOf "answers" "answers" (defArgs s_answers) (defBody s_answers) (defScope s_answers) .none kV_answers dc_answers pm_answers an_answers cd_answers ct_answers), sl_answers⟩)
    (c_answers : PySem.W.codeIn K cd_answers "answers" = true)
    (k_answers : PySem.W.keepIn K (.ref f_answers) = true)
    (a_answer_call : PySem.W.nsIn K mainGlobals "answer_call" = some (some (.ref f_answer_call)))
    (l_answer_call : K.lookup f_answer_call = some ⟨oc_answer_call, od_answer_call, .func (PySem.W.fnOf "answer_call" "answer_call" (defArgs s_answer_call) (defBody s_answer_call) (defScope s_answer_call) .none kV_answer_call dc_answer_call pm_answer_call an_answer_call cd_answer_call ct_answer_call), sl_answer_call⟩)
    (c_answer_call : PySem.W.codeIn K cd_answer_call "answer_call" = true)
    (k_answer_call : PySem.W.keepIn K (.ref f_answer_call) = true)
    (a_answer_phrase : PySem.W.nsIn K mainGlobals "answer_phrase" = some (some (.ref f_answer_phrase)))
    (l_answer_phrase : K.lookup f_answer_phrase = some ⟨oc_answer_phrase, od_answer_phrase, .func (PySem.W.fnOf "answer_phrase" "answer_phrase" (defArgs s_answer_phrase) (defBody s_answer_phrase) (defScope s_answer_phrase) .none kV_answer_phrase dc_answer_phrase pm_answer_phrase an_answer_phrase cd_answer_phrase ct_answer_phrase), sl_answer_phrase⟩)
    (c_answer_phrase : PySem.W.codeIn K cd_answer_phrase "answer_phrase" = true)
    (k_answer_phrase : PySem.W.keepIn K (.ref f_answer_phrase) = true)
    (a_answer_pair : PySem.W.nsIn K mainGlobals "answer_pair" = some (some (.ref f_answer_pair)))
    (l_answer_pair : K.lookup f_answer_pair = some ⟨oc_answer_pair, od_answer_pair, .func (PySem.W.fnOf "answer_pair" "answer_pair" (defArgs s_answer_pair) (defBody s_answer_pair) (defScope s_answer_pair) .none kV_answer_pair dc_answer_pair pm_answer_pair an_answer_pair cd_answer_pair ct_answer_pair), sl_answer_pair⟩)
    (c_answer_pair : PySem.W.codeIn K cd_answer_pair "answer_pair" = true)
    (k_answer_pair : PySem.W.keepIn K (.ref f_answer_pair) = true)
    (a_answer_prices : PySem.W.nsIn K mainGlobals "answer_prices" = some (some (.ref f_answer_prices)))
    (l_answer_prices : K.lookup f_answer_prices = some ⟨oc_answer_prices, od_answer_prices, .func (PySem.W.fnOf "answer_prices" "answer_prices" (defArgs s_answer_prices) (defBody s_answer_prices) (defScope s_answer_prices) .none kV_answer_prices dc_answer_prices pm_answer_prices an_answer_prices cd_answer_prices ct_answer_prices), sl_answer_prices⟩)
    (c_answer_prices : PySem.W.codeIn K cd_answer_prices "answer_prices" = true)
    (k_answer_prices : PySem.W.keepIn K (.ref f_answer_prices) = true)
    (a_answer_translate : PySem.W.nsIn K mainGlobals "answer_translate" = some (some (.ref f_answer_translate)))
    (l_answer_translate : K.lookup f_answer_translate = some ⟨oc_answer_translate, od_answer_translate, .func (PySem.W.fnOf "answer_translate" "answer_translate" (defArgs s_answer_translate) (defBody s_answer_translate) (defScope s_answer_translate) .none kV_answer_translate dc_answer_translate pm_answer_translate an_answer_translate cd_answer_translate ct_answer_translate), sl_answer_translate⟩)
    (c_answer_translate : PySem.W.codeIn K cd_answer_translate "answer_translate" = true)
    (k_answer_translate : PySem.W.keepIn K (.ref f_answer_translate) = true)
    (a_answer_force : PySem.W.nsIn K mainGlobals "answer_force" = some (some (.ref f_answer_force)))
    (l_answer_force : K.lookup f_answer_force = some ⟨oc_answer_force, od_answer_force, .func (PySem.W.fnOf "answer_force" "answer_force" (defArgs s_answer_force) (defBody s_answer_force) (defScope s_answer_force) .none kV_answer_force dc_answer_force pm_answer_force an_answer_force cd_answer_force ct_answer_force), sl_answer_force⟩)
    (c_answer_force : PySem.W.codeIn K cd_answer_force "answer_force" = true)
    (k_answer_force : PySem.W.keepIn K (.ref f_answer_force) = true)
    (a_answer_cost : PySem.W.nsIn K mainGlobals "answer_cost" = some (some (.ref f_answer_cost)))
    (l_answer_cost : K.lookup f_answer_cost = some ⟨oc_answer_cost, od_answer_cost, .func (PySem.W.fnOf "answer_cost" "answer_cost" (defArgs s_answer_cost) (defBody s_answer_cost) (defScope s_answer_cost) .none kV_answer_cost dc_answer_cost pm_answer_cost an_answer_cost cd_answer_cost ct_answer_cost), sl_answer_cost⟩)
    (c_answer_cost : PySem.W.codeIn K cd_answer_cost "answer_cost" = true)
    (k_answer_cost : PySem.W.keepIn K (.ref f_answer_cost) = true)
    (a_answer_some : PySem.W.nsIn K mainGlobals "answer_some" = some (some (.ref f_answer_some)))
    (l_answer_some : K.lookup f_answer_some = some ⟨oc_answer_some, od_answer_some, .func (PySem.W.fnOf "answer_some" "answer_some" (defArgs s_answer_some) (defBody s_answer_some) (defScope s_answer_some) .none kV_answer_some dc_answer_some pm_answer_some an_answer_some cd_answer_some ct_answer_some), sl_answer_some⟩)
    (c_answer_some : PySem.W.codeIn K cd_answer_some "answer_some" = true)
    (k_answer_some : PySem.W.keepIn K (.ref f_answer_some) = true)
    (a_told_phrases : PySem.W.nsIn K mainGlobals "told_phrases" = some (some (.ref f_told_phrases)))
    (l_told_phrases : K.lookup f_told_phrases = some ⟨oc_told_phrases, od_told_phrases, .func (PySem.W.fnOf "told_phrases" "told_phrases" (defArgs s_told_phrases) (defBody s_told_phrases) (defScope s_told_phrases) .none kV_told_phrases dc_told_phrases pm_told_phrases an_told_phrases cd_told_phrases ct_told_phrases), sl_told_phrases⟩)
    (c_told_phrases : PySem.W.codeIn K cd_told_phrases "told_phrases" = true)
    (k_told_phrases : PySem.W.keepIn K (.ref f_told_phrases) = true)
    (a_told_way_if_any : PySem.W.nsIn K mainGlobals "told_way_if_any" = some (some (.ref f_told_way_if_any)))
    (l_told_way_if_any : K.lookup f_told_way_if_any = some ⟨oc_told_way_if_any, od_told_way_if_any, .func (PySem.W.fnOf "told_way_if_any" "told_way_if_any" (defArgs s_told_way_if_any) (defBody s_told_way_if_any) (defScope s_told_way_if_any) .none kV_told_way_if_any dc_told_way_if_any pm_told_way_if_any an_told_way_if_any cd_told_way_if_any ct_told_way_if_any), sl_told_way_if_any⟩)
    (c_told_way_if_any : PySem.W.codeIn K cd_told_way_if_any "told_way_if_any" = true)
    (k_told_way_if_any : PySem.W.keepIn K (.ref f_told_way_if_any) = true)
    (a_told_way : PySem.W.nsIn K mainGlobals "told_way" = some (some (.ref f_told_way)))
    (l_told_way : K.lookup f_told_way = some ⟨oc_told_way, od_told_way, .func (PySem.W.fnOf "told_way" "told_way" (defArgs s_told_way) (defBody s_told_way) (defScope s_told_way) .none kV_told_way dc_told_way pm_told_way an_told_way cd_told_way ct_told_way), sl_told_way⟩)
    (c_told_way : PySem.W.codeIn K cd_told_way "told_way" = true)
    (k_told_way : PySem.W.keepIn K (.ref f_told_way) = true)
    (a_counted : PySem.W.nsIn K mainGlobals "counted" = some (some (.ref f_counted)))
    (l_counted : K.lookup f_counted = some ⟨oc_counted, od_counted, .func (PySem.W.fnOf "counted" "counted" (defArgs s_counted) (defBody s_counted) (defScope s_counted) .none kV_counted dc_counted pm_counted an_counted cd_counted ct_counted), sl_counted⟩)
    (c_counted : PySem.W.codeIn K cd_counted "counted" = true)
    (k_counted : PySem.W.keepIn K (.ref f_counted) = true)
    (pg_Phrase : PySem.W.plainGet K C_Phrase Str.empty = true)
    (hd_Phrase : PySem.W.hasDictIn K C_Phrase = true)
    (po_Phrase : PySem.W.plainOver K C_Phrase = true)
    (sa_Phrase : PySem.W.findIn K (.ref C_Phrase) "__setattr__" = some (some (.builtin "object.__setattr__")))
    (mk_Phrase : PySem.W.makesIn K C_Phrase = true)
    (kc_Phrase : PySem.W.keepIn K (.ref C_Phrase) = true)
    (n_Phrase_number : PySem.W.findIn K (.ref C_Phrase) "number" = some none)
    (n_Phrase_cost : PySem.W.findIn K (.ref C_Phrase) "cost" = some none)
    (n_Phrase_source : PySem.W.findIn K (.ref C_Phrase) "source" = some none)
    (n_Phrase_target : PySem.W.findIn K (.ref C_Phrase) "target" = some none)
    (pg_Machine : PySem.W.plainGet K C_Machine Str.empty = true)
    (hd_Machine : PySem.W.hasDictIn K C_Machine = true)
    (po_Machine : PySem.W.plainOver K C_Machine = true)
    (sa_Machine : PySem.W.findIn K (.ref C_Machine) "__setattr__" = some (some (.builtin "object.__setattr__")))
    (mk_Machine : PySem.W.makesIn K C_Machine = true)
    (kc_Machine : PySem.W.keepIn K (.ref C_Machine) = true)
    (n_Machine_phrases : PySem.W.findIn K (.ref C_Machine) "phrases" = some none)
    (n_Machine_fresh_number : PySem.W.findIn K (.ref C_Machine) "fresh_number" = some none)
    (n_Machine_pair_costs : PySem.W.findIn K (.ref C_Machine) "pair_costs" = some none)
    (n_Machine_other : PySem.W.findIn K (.ref C_Machine) "other" = some none)
    (n_Machine_jump : PySem.W.findIn K (.ref C_Machine) "jump" = some none)
    (n_Machine_wide : PySem.W.findIn K (.ref C_Machine) "wide" = some none)
    (pg_Trail : PySem.W.plainGet K C_Trail Str.empty = true)
    (hd_Trail : PySem.W.hasDictIn K C_Trail = true)
    (po_Trail : PySem.W.plainOver K C_Trail = true)
    (sa_Trail : PySem.W.findIn K (.ref C_Trail) "__setattr__" = some (some (.builtin "object.__setattr__")))
    (mk_Trail : PySem.W.makesIn K C_Trail = true)
    (kc_Trail : PySem.W.keepIn K (.ref C_Trail) = true)
    (n_Trail_cost : PySem.W.findIn K (.ref C_Trail) "cost" = some none)
    (n_Trail_steps : PySem.W.findIn K (.ref C_Trail) "steps" = some none)
    (n_Trail_words : PySem.W.findIn K (.ref C_Trail) "words" = some none)
    (n_Trail_taken : PySem.W.findIn K (.ref C_Trail) "taken" = some none)
    (n_Trail_ended : PySem.W.findIn K (.ref C_Trail) "ended" = some none)
    (pg_Reader : PySem.W.plainGet K C_Reader Str.empty = true)
    (hd_Reader : PySem.W.hasDictIn K C_Reader = true)
    (po_Reader : PySem.W.plainOver K C_Reader = true)
    (sa_Reader : PySem.W.findIn K (.ref C_Reader) "__setattr__" = some (some (.builtin "object.__setattr__")))
    (mk_Reader : PySem.W.makesIn K C_Reader = true)
    (kc_Reader : PySem.W.keepIn K (.ref C_Reader) = true)
    (n_Reader_numbers : PySem.W.findIn K (.ref C_Reader) "numbers" = some none)
    (n_Reader_place : PySem.W.findIn K (.ref C_Reader) "place" = some none)
    (v_WRONG : PySem.W.nsIn K mainGlobals "WRONG" = some (some (.int (-1) t_WRONG)))
    (v_NO_SUCH_PHRASE : PySem.W.nsIn K mainGlobals "NO_SUCH_PHRASE" = some (some (.int (-2) t_NO_SUCH_PHRASE)))
    (v_FULL : PySem.W.nsIn K mainGlobals "FULL" = some (some (.int (-5) t_FULL)))
    (v_NO_WAY : PySem.W.nsIn K mainGlobals "NO_WAY" = some (some (.int (-6) t_NO_WAY)))
    (v_HIGHEST_WORD : PySem.W.nsIn K mainGlobals "HIGHEST_WORD" = some (some (.int (99) t_HIGHEST_WORD)))
    (v_HIGHEST_COST : PySem.W.nsIn K mainGlobals "HIGHEST_COST" = some (some (.int (999) t_HIGHEST_COST)))
    (v_LONGEST_SOURCE : PySem.W.nsIn K mainGlobals "LONGEST_SOURCE" = some (some (.int (3) t_LONGEST_SOURCE)))
    (v_LONGEST_TARGET : PySem.W.nsIn K mainGlobals "LONGEST_TARGET" = some (some (.int (3) t_LONGEST_TARGET)))
    (v_WIDEST : PySem.W.nsIn K mainGlobals "WIDEST" = some (some (.int (6) t_WIDEST)))
    (v_MOST_PHRASES : PySem.W.nsIn K mainGlobals "MOST_PHRASES" = some (some (.int (6) t_MOST_PHRASES)))
    (v_MOST_PAIRS : PySem.W.nsIn K mainGlobals "MOST_PAIRS" = some (some (.int (20) t_MOST_PAIRS)))
    (v_NO_MORE : PySem.W.nsIn K mainGlobals "NO_MORE" = some (some (.int (1000) t_NO_MORE)))
    (v_PHRASE : PySem.W.nsIn K mainGlobals "PHRASE" = some (some (.int (0) t_PHRASE)))
    (v_GONE : PySem.W.nsIn K mainGlobals "GONE" = some (some (.int (1) t_GONE)))
    (v_PAIR : PySem.W.nsIn K mainGlobals "PAIR" = some (some (.int (2) t_PAIR)))
    (v_PRICES : PySem.W.nsIn K mainGlobals "PRICES" = some (some (.int (3) t_PRICES)))
    (v_TRANSLATE : PySem.W.nsIn K mainGlobals "TRANSLATE" = some (some (.int (4) t_TRANSLATE)))
    (v_FORCE : PySem.W.nsIn K mainGlobals "FORCE" = some (some (.int (5) t_FORCE)))
    (v_COST : PySem.W.nsIn K mainGlobals "COST" = some (some (.int (6) t_COST)))
    (v_SOME : PySem.W.nsIn K mainGlobals "SOME" = some (some (.int (7) t_SOME)))
    (v_PHRASES : PySem.W.nsIn K mainGlobals "PHRASES" = some (some (.int (8) t_PHRASES)))
    (v_LONGEST_SENTENCE : PySem.W.nsIn K mainGlobals "LONGEST_SENTENCE" = some (some (.int (5) t_LONGEST_SENTENCE)))
    (v_LONGEST_SAID : PySem.W.nsIn K mainGlobals "LONGEST_SAID" = some (some (.int (15) t_LONGEST_SAID)))
    (v_LONGEST_FOR_SOME : PySem.W.nsIn K mainGlobals "LONGEST_FOR_SOME" = some (some (.int (3) t_LONGEST_FOR_SOME)))
    (v_MOST_STEPS : PySem.W.nsIn K mainGlobals "MOST_STEPS" = some (some (.int (5) t_MOST_STEPS)))
    (v_MOST_SENTENCES : PySem.W.nsIn K mainGlobals "MOST_SENTENCES" = some (some (.int (5) t_MOST_SENTENCES)))
    (z_abs : PySem.W.nsIn K mainGlobals "abs" = some none)
    (z_all : PySem.W.nsIn K mainGlobals "all" = some none)
    (z_len : PySem.W.nsIn K mainGlobals "len" = some none)
    (z_list : PySem.W.nsIn K mainGlobals "list" = some none)
    (z_min : PySem.W.nsIn K mainGlobals "min" = some none)
    (z_range : PySem.W.nsIn K mainGlobals "range" = some none)
    (z_sorted : PySem.W.nsIn K mainGlobals "sorted" = some none)
    (z_tuple : PySem.W.nsIn K mainGlobals "tuple" = some none)
    : ∃ fd : FuncData, (∀ (s : Shared) (us : List Value), us.length = (["calls"] : List Str).length → BindsTo s fd ⟨us, []⟩ ((["calls"] : List Str).zip us)) ∧ ∀ base : Heap, K.In base → base.Ns mainGlobals mg → FnOk P w K mg base CX0 9 fa fd ["calls"] (sp_answers K) := by
  have e := hfa.symm.trans (PySem.W.mg_of X G a_answers)
  have e' : f_answers = fa := by cases e; rfl
  subst e'
  have F_Phrase_init := fun_mk (st := s_Phrase_init) l_Phrase_init c_Phrase_init k_Phrase_init
  have b_Phrase_init := F_Phrase_init.binds (ps := ["self", "number", "cost", "source", "target"]) fun _ _ _ _ _ _ us hl => match us, hl with | [_, _, _, _, _], _ => rfl
  have F_Machine_init := fun_mk (st := s_Machine_init) l_Machine_init c_Machine_init k_Machine_init
  have b_Machine_init := F_Machine_init.binds (ps := ["self"]) fun _ _ _ _ _ _ us hl => match us, hl with | [_], _ => rfl
  have F_Machine_add_phrase := fun_mk (st := s_Machine_add_phrase) l_Machine_add_phrase c_Machine_add_phrase k_Machine_add_phrase
  have b_Machine_add_phrase := F_Machine_add_phrase.binds (ps := ["self", "cost", "source", "target"]) fun _ _ _ _ _ _ us hl => match us, hl with | [_, _, _, _], _ => rfl
  have F_Machine_drop_phrase := fun_mk (st := s_Machine_drop_phrase) l_Machine_drop_phrase c_Machine_drop_phrase k_Machine_drop_phrase
  have b_Machine_drop_phrase := F_Machine_drop_phrase.binds (ps := ["self", "number"]) fun _ _ _ _ _ _ us hl => match us, hl with | [_, _], _ => rfl
  have F_Machine_phrase_numbered := fun_mk (st := s_Machine_phrase_numbered) l_Machine_phrase_numbered c_Machine_phrase_numbered k_Machine_phrase_numbered
  have b_Machine_phrase_numbered := F_Machine_phrase_numbered.binds (ps := ["self", "number"]) fun _ _ _ _ _ _ us hl => match us, hl with | [_, _], _ => rfl
  have F_Machine_tell_pair := fun_mk (st := s_Machine_tell_pair) l_Machine_tell_pair c_Machine_tell_pair k_Machine_tell_pair
  have b_Machine_tell_pair := F_Machine_tell_pair.binds (ps := ["self", "first", "second", "cost"]) fun _ _ _ _ _ _ us hl => match us, hl with | [_, _, _, _], _ => rfl
  have F_Machine_set_prices := fun_mk (st := s_Machine_set_prices) l_Machine_set_prices c_Machine_set_prices k_Machine_set_prices
  have b_Machine_set_prices := F_Machine_set_prices.binds (ps := ["self", "other", "jump", "wide"]) fun _ _ _ _ _ _ us hl => match us, hl with | [_, _, _, _], _ => rfl
  have F_Machine_cost_behind := fun_mk (st := s_Machine_cost_behind) l_Machine_cost_behind c_Machine_cost_behind k_Machine_cost_behind
  have b_Machine_cost_behind := F_Machine_cost_behind.binds (ps := ["self", "first", "second"]) fun _ _ _ _ _ _ us hl => match us, hl with | [_, _, _], _ => rfl
  have F_are_words := fun_mk (st := s_are_words) l_are_words c_are_words k_are_words
  have b_are_words := F_are_words.binds (ps := ["numbers"]) fun _ _ _ _ _ _ us hl => match us, hl with | [_], _ => rfl
  have F_is_sentence := fun_mk (st := s_is_sentence) l_is_sentence c_is_sentence k_is_sentence
  have b_is_sentence := F_is_sentence.binds (ps := ["numbers", "longest"]) fun _ _ _ _ _ _ us hl => match us, hl with | [_, _], _ => rfl
  have F_is_source := fun_mk (st := s_is_source) l_is_source c_is_source k_is_source
  have b_is_source := F_is_source.binds (ps := ["numbers"]) fun _ _ _ _ _ _ us hl => match us, hl with | [_], _ => rfl
  have F_Trail_init := fun_mk (st := s_Trail_init) l_Trail_init c_Trail_init k_Trail_init
  have b_Trail_init := F_Trail_init.binds (ps := ["self", "cost", "steps", "words", "taken", "ended"]) fun _ _ _ _ _ _ us hl => match us, hl with | [_, _, _, _, _, _], _ => rfl
  have F_cheapest_way := fun_mk (st := s_cheapest_way) l_cheapest_way c_cheapest_way k_cheapest_way
  have b_cheapest_way := F_cheapest_way.binds (ps := ["machine", "sentence"]) fun _ _ _ _ _ _ us hl => match us, hl with | [_, _], _ => rfl
  have F_cheapest_way_to_say := fun_mk (st := s_cheapest_way_to_say) l_cheapest_way_to_say c_cheapest_way_to_say k_cheapest_way_to_say
  have b_cheapest_way_to_say := F_cheapest_way_to_say.binds (ps := ["machine", "sentence", "said"]) fun _ _ _ _ _ _ us hl => match us, hl with | [_, _, _], _ => rfl
  have F_cheapest_sentences := fun_mk (st := s_cheapest_sentences) l_cheapest_sentences c_cheapest_sentences k_cheapest_sentences
  have b_cheapest_sentences := F_cheapest_sentences.binds (ps := ["machine", "sentence", "much"]) fun _ _ _ _ _ _ us hl => match us, hl with | [_, _, _], _ => rfl
  have F_way_by_steps := fun_mk (st := s_way_by_steps) l_way_by_steps c_way_by_steps k_way_by_steps
  have b_way_by_steps := F_way_by_steps.binds (ps := ["machine", "sentence", "steps"]) fun _ _ _ _ _ _ us hl => match us, hl with | [_, _, _], _ => rfl
  have F_whole_ways := fun_mk (st := s_whole_ways) l_whole_ways c_whole_ways k_whole_ways
  have b_whole_ways := F_whole_ways.binds (ps := ["machine", "sentence", "standing_of", "said"]) fun _ _ _ _ _ _ us hl => match us, hl with | [_, _, _, _], _ => rfl
  have F_beginning := fun_mk (st := s_beginning) l_beginning c_beginning k_beginning
  have b_beginning := F_beginning.binds (ps := []) fun _ _ _ _ _ _ us hl => match us, hl with | [], _ => rfl
  have F_is_whole := fun_mk (st := s_is_whole) l_is_whole c_is_whole k_is_whole
  have b_is_whole := F_is_whole.binds (ps := ["sentence", "trail"]) fun _ _ _ _ _ _ us hl => match us, hl with | [_, _], _ => rfl
  have F_bits_between := fun_mk (st := s_bits_between) l_bits_between c_bits_between k_bits_between
  have b_bits_between := F_bits_between.binds (ps := ["start", "end"]) fun _ _ _ _ _ _ us hl => match us, hl with | [_, _], _ => rfl
  have F_may_become := fun_mk (st := s_may_become) l_may_become c_may_become k_may_become
  have b_may_become := F_may_become.binds (ps := ["trail", "said"]) fun _ _ _ _ _ _ us hl => match us, hl with | [_, _], _ => rfl
  have F_last_word := fun_mk (st := s_last_word) l_last_word c_last_word k_last_word
  have b_last_word := F_last_word.binds (ps := ["words"]) fun _ _ _ _ _ _ us hl => match us, hl with | [_], _ => rfl
  have F_closed := fun_mk (st := s_closed) l_closed c_closed k_closed
  have b_closed := F_closed.binds (ps := ["machine", "trail"]) fun _ _ _ _ _ _ us hl => match us, hl with | [_, _], _ => rfl
  have F_order_of := fun_mk (st := s_order_of) l_order_of c_order_of k_order_of
  have b_order_of := F_order_of.binds (ps := ["trail"]) fun _ _ _ _ _ _ us hl => match us, hl with | [_], _ => rfl
  have F_cheapest_of := fun_mk (st := s_cheapest_of) l_cheapest_of c_cheapest_of k_cheapest_of
  have b_cheapest_of := F_cheapest_of.binds (ps := ["ways"]) fun _ _ _ _ _ _ us hl => match us, hl with | [_], _ => rfl
  have F_taken_and_last_word := fun_mk (st := s_taken_and_last_word) l_taken_and_last_word c_taken_and_last_word k_taken_and_last_word
  have b_taken_and_last_word := F_taken_and_last_word.binds (ps := ["trail"]) fun _ _ _ _ _ _ us hl => match us, hl with | [_], _ => rfl
  have F_taken_and_words := fun_mk (st := s_taken_and_words) l_taken_and_words c_taken_and_words k_taken_and_words
  have b_taken_and_words := F_taken_and_words.binds (ps := ["trail"]) fun _ _ _ _ _ _ us hl => match us, hl with | [_], _ => rfl
  have F_words_of := fun_mk (st := s_words_of) l_words_of c_words_of k_words_of
  have b_words_of := F_words_of.binds (ps := ["trail"]) fun _ _ _ _ _ _ us hl => match us, hl with | [_], _ => rfl
  have F_first_of_each := fun_mk (st := s_first_of_each) l_first_of_each c_first_of_each k_first_of_each
  have b_first_of_each := F_first_of_each.binds (ps := ["trails", "standing_of"]) fun _ _ _ _ _ _ us hl => match us, hl with | [_, _], _ => rfl
  have F_longer_trails := fun_mk (st := s_longer_trails) l_longer_trails c_longer_trails k_longer_trails
  have b_longer_trails := F_longer_trails.binds (ps := ["machine", "sentence", "trails"]) fun _ _ _ _ _ _ us hl => match us, hl with | [_, _, _], _ => rfl
  have F_may_step := fun_mk (st := s_may_step) l_may_step c_may_step k_may_step
  have b_may_step := F_may_step.binds (ps := ["machine", "sentence", "trail", "start", "phrase"]) fun _ _ _ _ _ _ us hl => match us, hl with | [_, _, _, _, _], _ => rfl
  have F_stepped := fun_mk (st := s_stepped) l_stepped c_stepped k_stepped
  have b_stepped := F_stepped.binds (ps := ["machine", "trail", "start", "phrase"]) fun _ _ _ _ _ _ us hl => match us, hl with | [_, _, _, _], _ => rfl
  have F_cost_of_words := fun_mk (st := s_cost_of_words) l_cost_of_words c_cost_of_words k_cost_of_words
  have b_cost_of_words := F_cost_of_words.binds (ps := ["machine", "ahead", "words"]) fun _ _ _ _ _ _ us hl => match us, hl with | [_, _, _], _ => rfl
  have F_Reader_init := fun_mk (st := s_Reader_init) l_Reader_init c_Reader_init k_Reader_init
  have b_Reader_init := F_Reader_init.binds (ps := ["self", "numbers"]) fun _ _ _ _ _ _ us hl => match us, hl with | [_, _], _ => rfl
  have F_Reader_has_more := fun_mk (st := s_Reader_has_more) l_Reader_has_more c_Reader_has_more k_Reader_has_more
  have b_Reader_has_more := F_Reader_has_more.binds (ps := ["self"]) fun _ _ _ _ _ _ us hl => match us, hl with | [_], _ => rfl
  have F_Reader_take := fun_mk (st := s_Reader_take) l_Reader_take c_Reader_take k_Reader_take
  have b_Reader_take := F_Reader_take.binds (ps := ["self"]) fun _ _ _ _ _ _ us hl => match us, hl with | [_], _ => rfl
  have F_Reader_take_row := fun_mk (st := s_Reader_take_row) l_Reader_take_row c_Reader_take_row k_Reader_take_row
  have b_Reader_take_row := F_Reader_take_row.binds (ps := ["self"]) fun _ _ _ _ _ _ us hl => match us, hl with | [_], _ => rfl
  have F_answers := fun_mk (st := s_answers) l_answers c_answers k_answers
  have b_answers := F_answers.binds (ps := ["calls"]) fun _ _ _ _ _ _ us hl => match us, hl with | [_], _ => rfl
  have F_answer_call := fun_mk (st := s_answer_call) l_answer_call c_answer_call k_answer_call
  have b_answer_call := F_answer_call.binds (ps := ["machine", "reader"]) fun _ _ _ _ _ _ us hl => match us, hl with | [_, _], _ => rfl
  have F_answer_phrase := fun_mk (st := s_answer_phrase) l_answer_phrase c_answer_phrase k_answer_phrase
  have b_answer_phrase := F_answer_phrase.binds (ps := ["machine", "reader"]) fun _ _ _ _ _ _ us hl => match us, hl with | [_, _], _ => rfl
  have F_answer_pair := fun_mk (st := s_answer_pair) l_answer_pair c_answer_pair k_answer_pair
  have b_answer_pair := F_answer_pair.binds (ps := ["machine", "reader"]) fun _ _ _ _ _ _ us hl => match us, hl with | [_, _], _ => rfl
  have F_answer_prices := fun_mk (st := s_answer_prices) l_answer_prices c_answer_prices k_answer_prices
  have b_answer_prices := F_answer_prices.binds (ps := ["machine", "reader"]) fun _ _ _ _ _ _ us hl => match us, hl with | [_, _], _ => rfl
  have F_answer_translate := fun_mk (st := s_answer_translate) l_answer_translate c_answer_translate k_answer_translate
  have b_answer_translate := F_answer_translate.binds (ps := ["machine", "reader"]) fun _ _ _ _ _ _ us hl => match us, hl with | [_, _], _ => rfl
  have F_answer_force := fun_mk (st := s_answer_force) l_answer_force c_answer_force k_answer_force
  have b_answer_force := F_answer_force.binds (ps := ["machine", "reader"]) fun _ _ _ _ _ _ us hl => match us, hl with | [_, _], _ => rfl
  have F_answer_cost := fun_mk (st := s_answer_cost) l_answer_cost c_answer_cost k_answer_cost
  have b_answer_cost := F_answer_cost.binds (ps := ["machine", "reader"]) fun _ _ _ _ _ _ us hl => match us, hl with | [_, _], _ => rfl
  have F_answer_some := fun_mk (st := s_answer_some) l_answer_some c_answer_some k_answer_some
  have b_answer_some := F_answer_some.binds (ps := ["machine", "reader"]) fun _ _ _ _ _ _ us hl => match us, hl with | [_, _], _ => rfl
  have F_told_phrases := fun_mk (st := s_told_phrases) l_told_phrases c_told_phrases k_told_phrases
  have b_told_phrases := F_told_phrases.binds (ps := ["machine"]) fun _ _ _ _ _ _ us hl => match us, hl with | [_], _ => rfl
  have F_told_way_if_any := fun_mk (st := s_told_way_if_any) l_told_way_if_any c_told_way_if_any k_told_way_if_any
  have b_told_way_if_any := F_told_way_if_any.binds (ps := ["way"]) fun _ _ _ _ _ _ us hl => match us, hl with | [_], _ => rfl
  have F_told_way := fun_mk (st := s_told_way) l_told_way c_told_way k_told_way
  have b_told_way := F_told_way.binds (ps := ["way"]) fun _ _ _ _ _ _ us hl => match us, hl with | [_], _ => rfl
  have F_counted := fun_mk (st := s_counted) l_counted c_counted k_counted
  have b_counted := F_counted.binds (ps := ["row"]) fun _ _ _ _ _ _ us hl => match us, hl with | [_], _ => rfl
  have T : Txt K mg { C_Phrase := C_Phrase, C_Machine := C_Machine, C_Trail := C_Trail, C_Reader := C_Reader, f_Phrase_init := f_Phrase_init, d_Phrase_init := PySem.W.fnOf "__init__" "Phrase.__init__" (defArgs s_Phrase_init) (defBody s_Phrase_init) (defScope s_Phrase_init) .none kV_Phrase_init dc_Phrase_init pm_Phrase_init an_Phrase_init cd_Phrase_init ct_Phrase_init, f_Machine_init := f_Machine_init, d_Machine_init := PySem.W.fnOf "__init__" "Machine.__init__" (defArgs s_Machine_init) (defBody s_Machine_init) (defScope s_Machine_init) .none kV_Machine_init dc_Machine_init pm_Machine_init an_Machine_init cd_Machine_init ct_Machine_init, f_Machine_add_phrase := f_Machine_add_phrase, d_Machine_add_phrase := PySem.W.fnOf "add_phrase" "Machine.add_phrase" (defArgs s_Machine_add_phrase) (defBody s_Machine_add_phrase) (defScope s_Machine_add_phrase) .none kV_Machine_add_phrase dc_Machine_add_phrase pm_Machine_add_phrase an_Machine_add_phrase cd_Machine_add_phrase ct_Machine_add_phrase, f_Machine_drop_phrase := f_Machine_drop_phrase, d_Machine_drop_phrase := PySem.W.fnOf "drop_phrase" "Machine.drop_phrase" (defArgs s_Machine_drop_phrase) (defBody s_Machine_drop_phrase) (defScope s_Machine_drop_phrase) .none kV_Machine_drop_phrase dc_Machine_drop_phrase pm_Machine_drop_phrase an_Machine_drop_phrase cd_Machine_drop_phrase ct_Machine_drop_phrase, f_Machine_phrase_numbered := f_Machine_phrase_numbered, d_Machine_phrase_numbered := PySem.W.fnOf "phrase_numbered" "Machine.phrase_numbered" (defArgs s_Machine_phrase_numbered) (defBody s_Machine_phrase_numbered) (defScope s_Machine_phrase_numbered) .none kV_Machine_phrase_numbered dc_Machine_phrase_numbered pm_Machine_phrase_numbered an_Machine_phrase_numbered cd_Machine_phrase_numbered ct_Machine_phrase_numbered, f_Machine_tell_pair := f_Machine_tell_pair, d_Machine_tell_pair := PySem.W.fnOf "tell_pair" "Machine.tell_pair" (defArgs s_Machine_tell_pair) (defBody s_Machine_tell_pair) (defScope s_Machine_tell_pair) .none kV_Machine_tell_pair dc_Machine_tell_pair pm_Machine_tell_pair an_Machine_tell_pair cd_Machine_tell_pair ct_Machine_tell_pair, f_Machine_set_prices := f_Machine_set_prices, d_Machine_set_prices := PySem.W.fnOf "set_prices" "Machine.set_prices" (defArgs s_Machine_set_prices) (defBody s_Machine_set_prices) (defScope s_Machine_set_prices) .none kV_Machine_set_prices dc_Machine_set_prices pm_Machine_set_prices an_Machine_set_prices cd_Machine_set_prices ct_Machine_set_prices, f_Machine_cost_behind := f_Machine_cost_behind, d_Machine_cost_behind := PySem.W.fnOf "cost_behind" "Machine.cost_behind" (defArgs s_Machine_cost_behind) (defBody s_Machine_cost_behind) (defScope s_Machine_cost_behind) .none kV_Machine_cost_behind dc_Machine_cost_behind pm_Machine_cost_behind an_Machine_cost_behind cd_Machine_cost_behind ct_Machine_cost_behind, f_are_words := f_are_words, d_are_words := PySem.W.fnOf "are_words" "are_words" (defArgs s_are_words) (defBody s_are_words) (defScope s_are_words) .none kV_are_words dc_are_words pm_are_words an_are_words cd_are_words ct_are_words, f_is_sentence := f_is_sentence, d_is_sentence := PySem.W.fnOf "is_sentence" "is_sentence" (defArgs s_is_sentence) (defBody s_is_sentence) (defScope s_is_sentence) .none kV_is_sentence dc_is_sentence pm_is_sentence an_is_sentence cd_is_sentence ct_is_sentence, f_is_source := f_is_source, d_is_source := PySem.W.fnOf "is_source" "is_source" (defArgs s_is_source) (defBody s_is_source) (defScope s_is_source) .none kV_is_source dc_is_source pm_is_source an_is_source cd_is_source ct_is_source, f_Trail_init := f_Trail_init, d_Trail_init := PySem.W.fnOf "__init__" "Trail.__init__" (defArgs s_Trail_init) (defBody s_Trail_init) (defScope s_Trail_init) .none kV_Trail_init dc_Trail_init pm_Trail_init an_Trail_init cd_Trail_init ct_Trail_init, f_cheapest_way := f_cheapest_way, d_cheapest_way := PySem.W.fnOf "cheapest_way" "cheapest_way" (defArgs s_cheapest_way) (defBody s_cheapest_way) (defScope s_cheapest_way) .none kV_cheapest_way dc_cheapest_way pm_cheapest_way an_cheapest_way cd_cheapest_way ct_cheapest_way, f_cheapest_way_to_say := f_cheapest_way_to_say, d_cheapest_way_to_say := PySem.W.fnOf "cheapest_way_to_say" "cheapest_way_to_say" (defArgs s_cheapest_way_to_say) (defBody s_cheapest_way_to_say) (defScope s_cheapest_way_to_say) .none kV_cheapest_way_to_say dc_cheapest_way_to_say pm_cheapest_way_to_say an_cheapest_way_to_say cd_cheapest_way_to_say ct_cheapest_way_to_say, f_cheapest_sentences := f_cheapest_sentences, d_cheapest_sentences := PySem.W.fnOf "cheapest_sentences" "cheapest_sentences" (defArgs s_cheapest_sentences) (defBody s_cheapest_sentences) (defScope s_cheapest_sentences) .none kV_cheapest_sentences dc_cheapest_sentences pm_cheapest_sentences an_cheapest_sentences cd_cheapest_sentences ct_cheapest_sentences, f_way_by_steps := f_way_by_steps, d_way_by_steps := PySem.W.fnOf "way_by_steps" "way_by_steps" (defArgs s_way_by_steps) (defBody s_way_by_steps) (defScope s_way_by_steps) .none kV_way_by_steps dc_way_by_steps pm_way_by_steps an_way_by_steps cd_way_by_steps ct_way_by_steps, f_whole_ways := f_whole_ways, d_whole_ways := PySem.W.fnOf "whole_ways" "whole_ways" (defArgs s_whole_ways) (defBody s_whole_ways) (defScope s_whole_ways) .none kV_whole_ways dc_whole_ways pm_whole_ways an_whole_ways cd_whole_ways ct_whole_ways, f_beginning := f_beginning, d_beginning := PySem.W.fnOf "beginning" "beginning" (defArgs s_beginning) (defBody s_beginning) (defScope s_beginning) .none kV_beginning dc_beginning pm_beginning an_beginning cd_beginning ct_beginning, f_is_whole := f_is_whole, d_is_whole := PySem.W.fnOf "is_whole" "is_whole" (defArgs s_is_whole) (defBody s_is_whole) (defScope s_is_whole) .none kV_is_whole dc_is_whole pm_is_whole an_is_whole cd_is_whole ct_is_whole, f_bits_between := f_bits_between, d_bits_between := PySem.W.fnOf "bits_between" "bits_between" (defArgs s_bits_between) (defBody s_bits_between) (defScope s_bits_between) .none kV_bits_between dc_bits_between pm_bits_between an_bits_between cd_bits_between ct_bits_between, f_may_become := f_may_become, d_may_become := PySem.W.fnOf "may_become" "may_become" (defArgs s_may_become) (defBody s_may_become) (defScope s_may_become) .none kV_may_become dc_may_become pm_may_become an_may_become cd_may_become ct_may_become, f_last_word := f_last_word, d_last_word := PySem.W.fnOf "last_word" "last_word" (defArgs s_last_word) (defBody s_last_word) (defScope s_last_word) .none kV_last_word dc_last_word pm_last_word an_last_word cd_last_word ct_last_word, f_closed := f_closed, d_closed := PySem.W.fnOf "closed" "closed" (defArgs s_closed) (defBody s_closed) (defScope s_closed) .none kV_closed dc_closed pm_closed an_closed cd_closed ct_closed, f_order_of := f_order_of, d_order_of := PySem.W.fnOf "order_of" "order_of" (defArgs s_order_of) (defBody s_order_of) (defScope s_order_of) .none kV_order_of dc_order_of pm_order_of an_order_of cd_order_of ct_order_of, f_cheapest_of := f_cheapest_of, d_cheapest_of := PySem.W.fnOf "cheapest_of" "cheapest_of" (defArgs s_cheapest_of) (defBody s_cheapest_of) (defScope s_cheapest_of) .none kV_cheapest_of dc_cheapest_of pm_cheapest_of an_cheapest_of cd_cheapest_of ct_cheapest_of, f_taken_and_last_word := f_taken_and_last_word, d_taken_and_last_word := PySem.W.fnOf "taken_and_last_word" "taken_and_last_word" (defArgs s_taken_and_last_word) (defBody s_taken_and_last_word) (defScope s_taken_and_last_word) .none kV_taken_and_last_word dc_taken_and_last_word pm_taken_and_last_word an_taken_and_last_word cd_taken_and_last_word ct_taken_and_last_word, f_taken_and_words := f_taken_and_words, d_taken_and_words := PySem.W.fnOf "taken_and_words" "taken_and_words" (defArgs s_taken_and_words) (defBody s_taken_and_words) (defScope s_taken_and_words) .none kV_taken_and_words dc_taken_and_words pm_taken_and_words an_taken_and_words cd_taken_and_words ct_taken_and_words, f_words_of := f_words_of, d_words_of := PySem.W.fnOf "words_of" "words_of" (defArgs s_words_of) (defBody s_words_of) (defScope s_words_of) .none kV_words_of dc_words_of pm_words_of an_words_of cd_words_of ct_words_of, f_first_of_each := f_first_of_each, d_first_of_each := PySem.W.fnOf "first_of_each" "first_of_each" (defArgs s_first_of_each) (defBody s_first_of_each) (defScope s_first_of_each) .none kV_first_of_each dc_first_of_each pm_first_of_each an_first_of_each cd_first_of_each ct_first_of_each, f_longer_trails := f_longer_trails, d_longer_trails := PySem.W.fnOf "longer_trails" "longer_trails" (defArgs s_longer_trails) (defBody s_longer_trails) (defScope s_longer_trails) .none kV_longer_trails dc_longer_trails pm_longer_trails an_longer_trails cd_longer_trails ct_longer_trails, f_may_step := f_may_step, d_may_step := PySem.W.fnOf "may_step" "may_step" (defArgs s_may_step) (defBody s_may_step) (defScope s_may_step) .none kV_may_step dc_may_step pm_may_step an_may_step cd_may_step ct_may_step, f_stepped := f_stepped, d_stepped := PySem.W.fnOf "stepped" "stepped" (defArgs s_stepped) (defBody s_stepped) (defScope s_stepped) .none kV_stepped dc_stepped pm_stepped an_stepped cd_stepped ct_stepped, f_cost_of_words := f_cost_of_words, d_cost_of_words := PySem.W.fnOf "cost_of_words" "cost_of_words" (defArgs s_cost_of_words) (defBody s_cost_of_words) (defScope s_cost_of_words) .none kV_cost_of_words dc_cost_of_words pm_cost_of_words an_cost_of_words cd_cost_of_words ct_cost_of_words, f_Reader_init := f_Reader_init, d_Reader_init := PySem.W.fnOf "__init__" "Reader.__init__" (defArgs s_Reader_init) (defBody s_Reader_init) (defScope s_Reader_init) .none kV_Reader_init dc_Reader_init pm_Reader_init an_Reader_init cd_Reader_init ct_Reader_init, f_Reader_has_more := f_Reader_has_more, d_Reader_has_more := PySem.W.fnOf "has_more" "Reader.has_more" (defArgs s_Reader_has_more) (defBody s_Reader_has_more) (defScope s_Reader_has_more) .none kV_Reader_has_more dc_Reader_has_more pm_Reader_has_more an_Reader_has_more cd_Reader_has_more ct_Reader_has_more, f_Reader_take := f_Reader_take, d_Reader_take := PySem.W.fnOf "take" "Reader.take" (defArgs s_Reader_take) (defBody s_Reader_take) (defScope s_Reader_take) .none kV_Reader_take dc_Reader_take pm_Reader_take an_Reader_take cd_Reader_take ct_Reader_take, f_Reader_take_row := f_Reader_take_row, d_Reader_take_row := PySem.W.fnOf "take_row" "Reader.take_row" (defArgs s_Reader_take_row) (defBody s_Reader_take_row) (defScope s_Reader_take_row) .none kV_Reader_take_row dc_Reader_take_row pm_Reader_take_row an_Reader_take_row cd_Reader_take_row ct_Reader_take_row, f_answers := f_answers, d_answers := PySem.W.fnOf "answers" "answers" (defArgs s_answers) (defBody s_answers) (defScope s_answers) .none kV_answers dc_answers pm_answers an_answers cd_answers ct_answers, f_answer_call := f_answer_call, d_answer_call := PySem.W.fnOf "answer_call" "answer_call" (defArgs s_answer_call) (defBody s_answer_call) (defScope s_answer_call) .none kV_answer_call dc_answer_call pm_answer_call an_answer_call cd_answer_call ct_answer_call, f_answer_phrase := f_answer_phrase, d_answer_phrase := PySem.W.fnOf "answer_phrase" "answer_phrase" (defArgs s_answer_phrase) (defBody s_answer_phrase) (defScope s_answer_phrase) .none kV_answer_phrase dc_answer_phrase pm_answer_phrase an_answer_phrase cd_answer_phrase ct_answer_phrase, f_answer_pair := f_answer_pair, d_answer_pair := PySem.W.fnOf "answer_pair" "answer_pair" (defArgs s_answer_pair) (defBody s_answer_pair) (defScope s_answer_pair) .none kV_answer_pair dc_answer_pair pm_answer_pair an_answer_pair cd_answer_pair ct_answer_pair, f_answer_prices := f_answer_prices, d_answer_prices := PySem.W.fnOf "answer_prices" "answer_prices" (defArgs s_answer_prices) (defBody s_answer_prices) (defScope s_answer_prices) .none kV_answer_prices dc_answer_prices pm_answer_prices an_answer_prices cd_answer_prices ct_answer_prices, f_answer_translate := f_answer_translate, d_answer_translate := PySem.W.fnOf "answer_translate" "answer_translate" (defArgs s_answer_translate) (defBody s_answer_translate) (defScope s_answer_translate) .none kV_answer_translate dc_answer_translate pm_answer_translate an_answer_translate cd_answer_translate ct_answer_translate, f_answer_force := f_answer_force, d_answer_force := PySem.W.fnOf "answer_force" "answer_force" (defArgs s_answer_force) (defBody s_answer_force) (defScope s_answer_force) .none kV_answer_force dc_answer_force pm_answer_force an_answer_force cd_answer_force ct_answer_force, f_answer_cost := f_answer_cost, d_answer_cost := PySem.W.fnOf "answer_cost" "answer_cost" (defArgs s_answer_cost) (defBody s_answer_cost) (defScope s_answer_cost) .none kV_answer_cost dc_answer_cost pm_answer_cost an_answer_cost cd_answer_cost ct_answer_cost, f_answer_some := f_answer_some, d_answer_some := PySem.W.fnOf "answer_some" "answer_some" (defArgs s_answer_some) (defBody s_answer_some) (defScope s_answer_some) .none kV_answer_some dc_answer_some pm_answer_some an_answer_some cd_answer_some ct_answer_some, f_told_phrases := f_told_phrases, d_told_phrases := PySem.W.fnOf "told_phrases" "told_phrases" (defArgs s_told_phrases) (defBody s_told_phrases) (defScope s_told_phrases) .none kV_told_phrases dc_told_phrases pm_told_phrases an_told_phrases cd_told_phrases ct_told_phrases, f_told_way_if_any := f_told_way_if_any, d_told_way_if_any := PySem.W.fnOf "told_way_if_any" "told_way_if_any" (defArgs s_told_way_if_any) (defBody s_told_way_if_any) (defScope s_told_way_if_any) .none kV_told_way_if_any dc_told_way_if_any pm_told_way_if_any an_told_way_if_any cd_told_way_if_any ct_told_way_if_any, f_told_way := f_told_way, d_told_way := PySem.W.fnOf "told_way" "told_way" (defArgs s_told_way) (defBody s_told_way) (defScope s_told_way) .none kV_told_way dc_told_way pm_told_way an_told_way cd_told_way ct_told_way, f_counted := f_counted, d_counted := PySem.W.fnOf "counted" "counted" (defArgs s_counted) (defBody s_counted) (defScope s_counted) .none kV_counted dc_counted pm_counted an_counted cd_counted ct_counted, t_WRONG := t_WRONG, t_NO_SUCH_PHRASE := t_NO_SUCH_PHRASE, t_FULL := t_FULL, t_NO_WAY := t_NO_WAY, t_HIGHEST_WORD := t_HIGHEST_WORD, t_HIGHEST_COST := t_HIGHEST_COST, t_LONGEST_SOURCE := t_LONGEST_SOURCE, t_LONGEST_TARGET := t_LONGEST_TARGET, t_WIDEST := t_WIDEST, t_MOST_PHRASES := t_MOST_PHRASES, t_MOST_PAIRS := t_MOST_PAIRS, t_NO_MORE := t_NO_MORE, t_PHRASE := t_PHRASE, t_GONE := t_GONE, t_PAIR := t_PAIR, t_PRICES := t_PRICES, t_TRANSLATE := t_TRANSLATE, t_FORCE := t_FORCE, t_COST := t_COST, t_SOME := t_SOME, t_PHRASES := t_PHRASES, t_LONGEST_SENTENCE := t_LONGEST_SENTENCE, t_LONGEST_SAID := t_LONGEST_SAID, t_LONGEST_FOR_SOME := t_LONGEST_FOR_SOME, t_MOST_STEPS := t_MOST_STEPS, t_MOST_SENTENCES := t_MOST_SENTENCES } := {
    cl_Phrase := ⟨pg_Phrase, hd_Phrase, po_Phrase, sa_Phrase⟩,
    mk_Phrase := ⟨mk_Phrase, a_Phrase_init, i_Phrase_init, kc_Phrase⟩,
    g_Phrase := PySem.W.mg_of X G aC_Phrase,
    n_Phrase_number := n_Phrase_number,
    n_Phrase_cost := n_Phrase_cost,
    n_Phrase_source := n_Phrase_source,
    n_Phrase_target := n_Phrase_target,
    cl_Machine := ⟨pg_Machine, hd_Machine, po_Machine, sa_Machine⟩,
    mk_Machine := ⟨mk_Machine, a_Machine_init, i_Machine_init, kc_Machine⟩,
    g_Machine := PySem.W.mg_of X G aC_Machine,
    n_Machine_phrases := n_Machine_phrases,
    n_Machine_fresh_number := n_Machine_fresh_number,
    n_Machine_pair_costs := n_Machine_pair_costs,
    n_Machine_other := n_Machine_other,
    n_Machine_jump := n_Machine_jump,
    n_Machine_wide := n_Machine_wide,
    cl_Trail := ⟨pg_Trail, hd_Trail, po_Trail, sa_Trail⟩,
    mk_Trail := ⟨mk_Trail, a_Trail_init, i_Trail_init, kc_Trail⟩,
    g_Trail := PySem.W.mg_of X G aC_Trail,
    n_Trail_cost := n_Trail_cost,
    n_Trail_steps := n_Trail_steps,
    n_Trail_words := n_Trail_words,
    n_Trail_taken := n_Trail_taken,
    n_Trail_ended := n_Trail_ended,
    cl_Reader := ⟨pg_Reader, hd_Reader, po_Reader, sa_Reader⟩,
    mk_Reader := ⟨mk_Reader, a_Reader_init, i_Reader_init, kc_Reader⟩,
    g_Reader := PySem.W.mg_of X G aC_Reader,
    n_Reader_numbers := n_Reader_numbers,
    n_Reader_place := n_Reader_place,
    F_Phrase_init := F_Phrase_init,
    b_Phrase_init := b_Phrase_init,
    F_Machine_init := F_Machine_init,
    b_Machine_init := b_Machine_init,
    F_Machine_add_phrase := F_Machine_add_phrase,
    b_Machine_add_phrase := b_Machine_add_phrase,
    m_Machine_add_phrase := ⟨a_Machine_add_phrase, i_Machine_add_phrase, k_Machine_add_phrase⟩,
    F_Machine_drop_phrase := F_Machine_drop_phrase,
    b_Machine_drop_phrase := b_Machine_drop_phrase,
    m_Machine_drop_phrase := ⟨a_Machine_drop_phrase, i_Machine_drop_phrase, k_Machine_drop_phrase⟩,
    F_Machine_phrase_numbered := F_Machine_phrase_numbered,
    b_Machine_phrase_numbered := b_Machine_phrase_numbered,
    m_Machine_phrase_numbered := ⟨a_Machine_phrase_numbered, i_Machine_phrase_numbered, k_Machine_phrase_numbered⟩,
    F_Machine_tell_pair := F_Machine_tell_pair,
    b_Machine_tell_pair := b_Machine_tell_pair,
    m_Machine_tell_pair := ⟨a_Machine_tell_pair, i_Machine_tell_pair, k_Machine_tell_pair⟩,
    F_Machine_set_prices := F_Machine_set_prices,
    b_Machine_set_prices := b_Machine_set_prices,
    m_Machine_set_prices := ⟨a_Machine_set_prices, i_Machine_set_prices, k_Machine_set_prices⟩,
    F_Machine_cost_behind := F_Machine_cost_behind,
    b_Machine_cost_behind := b_Machine_cost_behind,
    m_Machine_cost_behind := ⟨a_Machine_cost_behind, i_Machine_cost_behind, k_Machine_cost_behind⟩,
    F_are_words := F_are_words,
    b_are_words := b_are_words,
    g_are_words := PySem.W.mg_of X G a_are_words,
    k_are_words := k_are_words,
    F_is_sentence := F_is_sentence,
    b_is_sentence := b_is_sentence,
    g_is_sentence := PySem.W.mg_of X G a_is_sentence,
    k_is_sentence := k_is_sentence,
    F_is_source := F_is_source,
    b_is_source := b_is_source,
    g_is_source := PySem.W.mg_of X G a_is_source,
    k_is_source := k_is_source,
    F_Trail_init := F_Trail_init,
    b_Trail_init := b_Trail_init,
    F_cheapest_way := F_cheapest_way,
    b_cheapest_way := b_cheapest_way,
    g_cheapest_way := PySem.W.mg_of X G a_cheapest_way,
    k_cheapest_way := k_cheapest_way,
    F_cheapest_way_to_say := F_cheapest_way_to_say,
    b_cheapest_way_to_say := b_cheapest_way_to_say,
    g_cheapest_way_to_say := PySem.W.mg_of X G a_cheapest_way_to_say,
    k_cheapest_way_to_say := k_cheapest_way_to_say,
    F_cheapest_sentences := F_cheapest_sentences,
    b_cheapest_sentences := b_cheapest_sentences,
    g_cheapest_sentences := PySem.W.mg_of X G a_cheapest_sentences,
    k_cheapest_sentences := k_cheapest_sentences,
    F_way_by_steps := F_way_by_steps,
    b_way_by_steps := b_way_by_steps,
    g_way_by_steps := PySem.W.mg_of X G a_way_by_steps,
    k_way_by_steps := k_way_by_steps,
    F_whole_ways := F_whole_ways,
    b_whole_ways := b_whole_ways,
    g_whole_ways := PySem.W.mg_of X G a_whole_ways,
    k_whole_ways := k_whole_ways,
    F_beginning := F_beginning,
    b_beginning := b_beginning,
    g_beginning := PySem.W.mg_of X G a_beginning,
    k_beginning := k_beginning,
    F_is_whole := F_is_whole,
    b_is_whole := b_is_whole,
    g_is_whole := PySem.W.mg_of X G a_is_whole,
    k_is_whole := k_is_whole,
    F_bits_between := F_bits_between,
    b_bits_between := b_bits_between,
    g_bits_between := PySem.W.mg_of X G a_bits_between,
    k_bits_between := k_bits_between,
    F_may_become := F_may_become,
    b_may_become := b_may_become,
    g_may_become := PySem.W.mg_of X G a_may_become,
    k_may_become := k_may_become,
    F_last_word := F_last_word,
    b_last_word := b_last_word,
    g_last_word := PySem.W.mg_of X G a_last_word,
    k_last_word := k_last_word,
    F_closed := F_closed,
    b_closed := b_closed,
    g_closed := PySem.W.mg_of X G a_closed,
    k_closed := k_closed,
    F_order_of := F_order_of,
    b_order_of := b_order_of,
    g_order_of := PySem.W.mg_of X G a_order_of,
    k_order_of := k_order_of,
    F_cheapest_of := F_cheapest_of,
    b_cheapest_of := b_cheapest_of,
    g_cheapest_of := PySem.W.mg_of X G a_cheapest_of,
    k_cheapest_of := k_cheapest_of,
    F_taken_and_last_word := F_taken_and_last_word,
    b_taken_and_last_word := b_taken_and_last_word,
    g_taken_and_last_word := PySem.W.mg_of X G a_taken_and_last_word,
    k_taken_and_last_word := k_taken_and_last_word,
    F_taken_and_words := F_taken_and_words,
    b_taken_and_words := b_taken_and_words,
    g_taken_and_words := PySem.W.mg_of X G a_taken_and_words,
    k_taken_and_words := k_taken_and_words,
    F_words_of := F_words_of,
    b_words_of := b_words_of,
    g_words_of := PySem.W.mg_of X G a_words_of,
    k_words_of := k_words_of,
    F_first_of_each := F_first_of_each,
    b_first_of_each := b_first_of_each,
    g_first_of_each := PySem.W.mg_of X G a_first_of_each,
    k_first_of_each := k_first_of_each,
    F_longer_trails := F_longer_trails,
    b_longer_trails := b_longer_trails,
    g_longer_trails := PySem.W.mg_of X G a_longer_trails,
    k_longer_trails := k_longer_trails,
    F_may_step := F_may_step,
    b_may_step := b_may_step,
    g_may_step := PySem.W.mg_of X G a_may_step,
    k_may_step := k_may_step,
    F_stepped := F_stepped,
    b_stepped := b_stepped,
    g_stepped := PySem.W.mg_of X G a_stepped,
    k_stepped := k_stepped,
    F_cost_of_words := F_cost_of_words,
    b_cost_of_words := b_cost_of_words,
    g_cost_of_words := PySem.W.mg_of X G a_cost_of_words,
    k_cost_of_words := k_cost_of_words,
    F_Reader_init := F_Reader_init,
    b_Reader_init := b_Reader_init,
    F_Reader_has_more := F_Reader_has_more,
    b_Reader_has_more := b_Reader_has_more,
    m_Reader_has_more := ⟨a_Reader_has_more, i_Reader_has_more, k_Reader_has_more⟩,
    F_Reader_take := F_Reader_take,
    b_Reader_take := b_Reader_take,
    m_Reader_take := ⟨a_Reader_take, i_Reader_take, k_Reader_take⟩,
    F_Reader_take_row := F_Reader_take_row,
    b_Reader_take_row := b_Reader_take_row,
    m_Reader_take_row := ⟨a_Reader_take_row, i_Reader_take_row, k_Reader_take_row⟩,
    F_answers := F_answers,
    b_answers := b_answers,
    g_answers := PySem.W.mg_of X G a_answers,
    k_answers := k_answers,
    F_answer_call := F_answer_call,
    b_answer_call := b_answer_call,
    g_answer_call := PySem.W.mg_of X G a_answer_call,
    k_answer_call := k_answer_call,
    F_answer_phrase := F_answer_phrase,
    b_answer_phrase := b_answer_phrase,
    g_answer_phrase := PySem.W.mg_of X G a_answer_phrase,
    k_answer_phrase := k_answer_phrase,
    F_answer_pair := F_answer_pair,
    b_answer_pair := b_answer_pair,
    g_answer_pair := PySem.W.mg_of X G a_answer_pair,
    k_answer_pair := k_answer_pair,
    F_answer_prices := F_answer_prices,
    b_answer_prices := b_answer_prices,
    g_answer_prices := PySem.W.mg_of X G a_answer_prices,
    k_answer_prices := k_answer_prices,
    F_answer_translate := F_answer_translate,
    b_answer_translate := b_answer_translate,
    g_answer_translate := PySem.W.mg_of X G a_answer_translate,
    k_answer_translate := k_answer_translate,
    F_answer_force := F_answer_force,
    b_answer_force := b_answer_force,
    g_answer_force := PySem.W.mg_of X G a_answer_force,
    k_answer_force := k_answer_force,
    F_answer_cost := F_answer_cost,
    b_answer_cost := b_answer_cost,
    g_answer_cost := PySem.W.mg_of X G a_answer_cost,
    k_answer_cost := k_answer_cost,
    F_answer_some := F_answer_some,
    b_answer_some := b_answer_some,
    g_answer_some := PySem.W.mg_of X G a_answer_some,
    k_answer_some := k_answer_some,
    F_told_phrases := F_told_phrases,
    b_told_phrases := b_told_phrases,
    g_told_phrases := PySem.W.mg_of X G a_told_phrases,
    k_told_phrases := k_told_phrases,
    F_told_way_if_any := F_told_way_if_any,
    b_told_way_if_any := b_told_way_if_any,
    g_told_way_if_any := PySem.W.mg_of X G a_told_way_if_any,
    k_told_way_if_any := k_told_way_if_any,
    F_told_way := F_told_way,
    b_told_way := b_told_way,
    g_told_way := PySem.W.mg_of X G a_told_way,
    k_told_way := k_told_way,
    F_counted := F_counted,
    b_counted := b_counted,
    g_counted := PySem.W.mg_of X G a_counted,
    k_counted := k_counted,
    g_WRONG := PySem.W.mg_of X G v_WRONG,
    g_NO_SUCH_PHRASE := PySem.W.mg_of X G v_NO_SUCH_PHRASE,
    g_FULL := PySem.W.mg_of X G v_FULL,
    g_NO_WAY := PySem.W.mg_of X G v_NO_WAY,
    g_HIGHEST_WORD := PySem.W.mg_of X G v_HIGHEST_WORD,
    g_HIGHEST_COST := PySem.W.mg_of X G v_HIGHEST_COST,
    g_LONGEST_SOURCE := PySem.W.mg_of X G v_LONGEST_SOURCE,
    g_LONGEST_TARGET := PySem.W.mg_of X G v_LONGEST_TARGET,
    g_WIDEST := PySem.W.mg_of X G v_WIDEST,
    g_MOST_PHRASES := PySem.W.mg_of X G v_MOST_PHRASES,
    g_MOST_PAIRS := PySem.W.mg_of X G v_MOST_PAIRS,
    g_NO_MORE := PySem.W.mg_of X G v_NO_MORE,
    g_PHRASE := PySem.W.mg_of X G v_PHRASE,
    g_GONE := PySem.W.mg_of X G v_GONE,
    g_PAIR := PySem.W.mg_of X G v_PAIR,
    g_PRICES := PySem.W.mg_of X G v_PRICES,
    g_TRANSLATE := PySem.W.mg_of X G v_TRANSLATE,
    g_FORCE := PySem.W.mg_of X G v_FORCE,
    g_COST := PySem.W.mg_of X G v_COST,
    g_SOME := PySem.W.mg_of X G v_SOME,
    g_PHRASES := PySem.W.mg_of X G v_PHRASES,
    g_LONGEST_SENTENCE := PySem.W.mg_of X G v_LONGEST_SENTENCE,
    g_LONGEST_SAID := PySem.W.mg_of X G v_LONGEST_SAID,
    g_LONGEST_FOR_SOME := PySem.W.mg_of X G v_LONGEST_FOR_SOME,
    g_MOST_STEPS := PySem.W.mg_of X G v_MOST_STEPS,
    g_MOST_SENTENCES := PySem.W.mg_of X G v_MOST_SENTENCES,
    b_abs := PySem.W.mg_none_of X G z_abs,
    b_all := PySem.W.mg_none_of X G z_all,
    b_len := PySem.W.mg_none_of X G z_len,
    b_list := PySem.W.mg_none_of X G z_list,
    b_min := PySem.W.mg_none_of X G z_min,
    b_range := PySem.W.mg_none_of X G z_range,
    b_sorted := PySem.W.mg_none_of X G z_sorted,
    b_tuple := PySem.W.mg_none_of X G z_tuple }
  exact ⟨_, fun s us hu => match us, hu with | [_], _ => .of_eq rfl, fun base _ _ => ok_answers T⟩
end Pw
open PySem PySem.W PyProof.Rows
set_option maxRecDepth 100000 in
set_option maxHeartbeats 8000000 in
theorem PySem.Challenge.cw_phraseways_s01_answers_holds : PySem.Challenge.rw_phraseways_s01_answers.Holds := by
  w_on; k_headS; (case hw => exact ⟨[.list [.int 8]], by decide +kernel, by decide +kernel⟩)
  k_fillS
  refine L2.walk_specK (r := PySem.Challenge.rw_phraseways_s01_answers) (k := 9) (CX := L2.CX0) (ps := ["calls"]) (sp := Pw.sp_answers) (by decide +kernel) rfl rfl ⟨rfl, by decide, by decide⟩ (fun w h Y => PySem.W.kIn_of Y) ?F ?S (fun _ _ _ _ z => z)
  case F =>
    intro w mg fa h Y KX G hmg
    refine' Pw.all_mk KX G hmg ?aC_Phrase ?aC_Machine ?aC_Trail ?aC_Reader ?a_Phrase_init ?i_Phrase_init ?l_Phrase_init ?c_Phrase_init ?k_Phrase_init ?a_Machine_init ?i_Machine_init ?l_Machine_init ?c_Machine_init ?k_Machine_init ?a_Machine_add_phrase ?i_Machine_add_phrase ?l_Machine_add_phrase ?c_Machine_add_phrase ?k_Machine_add_phrase ?a_Machine_drop_phrase ?i_Machine_drop_phrase ?l_Machine_drop_phrase ?c_Machine_drop_phrase ?k_Machine_drop_phrase ?a_Machine_phrase_numbered ?i_Machine_phrase_numbered ?l_Machine_phrase_numbered ?c_Machine_phrase_numbered ?k_Machine_phrase_numbered ?a_Machine_tell_pair ?i_Machine_tell_pair ?l_Machine_tell_pair ?c_Machine_tell_pair ?k_Machine_tell_pair ?a_Machine_set_prices ?i_Machine_set_prices ?l_Machine_set_prices ?c_Machine_set_prices ?k_Machine_set_prices ?a_Machine_cost_behind ?i_Machine_cost_behind ?l_Machine_cost_behind ?c_Machine_cost_behind ?k_Machine_cost_behind ?a_are_words ?l_are_words ?c_are_words ?k_are_words ?a_is_sentence ?l_is_sentence ?c_is_sentence ?k_is_sentence ?a_is_source ?l_is_source ?c_is_source ?k_is_source ?a_Trail_init ?i_Trail_init ?l_Trail_init ?c_Trail_init ?k_Trail_init ?a_cheapest_way ?l_cheapest_way ?c_cheapest_way ?k_cheapest_way ?a_cheapest_way_to_say ?l_cheapest_way_to_say ?c_cheapest_way_to_say ?k_cheapest_way_to_say ?a_cheapest_sentences ?l_cheapest_sentences ?c_cheapest_sentences ?k_cheapest_sentences ?a_way_by_steps ?l_way_by_steps ?c_way_by_steps ?k_way_by_steps ?a_whole_ways ?l_whole_ways ?c_whole_ways ?k_whole_ways ?a_beginning ?l_beginning ?c_beginning ?k_beginning ?a_is_whole ?l_is_whole ?c_is_whole ?k_is_whole ?a_bits_between ?l_bits_between ?c_bits_between ?k_bits_between ?a_may_become ?l_may_become ?c_may_become ?k_may_become ?a_last_word ?l_last_word ?c_last_word ?k_last_word ?a_closed ?l_closed ?c_closed ?k_closed ?a_order_of ?l_order_of ?c_order_of ?k_order_of ?a_cheapest_of ?l_cheapest_of ?c_cheapest_of ?k_cheapest_of ?a_taken_and_last_word ?l_taken_and_last_word ?c_taken_and_last_word ?k_taken_and_last_word ?a_taken_and_words ?l_taken_and_words ?c_taken_and_words ?k_taken_and_words ?a_words_of ?l_words_of ?c_words_of ?k_words_of ?a_first_of_each ?l_first_of_each ?c_first_of_each ?k_first_of_each ?a_longer_trails ?l_longer_trails ?c_longer_trails ?k_longer_trails ?a_may_step ?l_may_step ?c_may_step ?k_may_step ?a_stepped ?l_stepped ?c_stepped ?k_stepped ?a_cost_of_words ?l_cost_of_words ?c_cost_of_words ?k_cost_of_words ?a_Reader_init ?i_Reader_init ?l_Reader_init ?c_Reader_init ?k_Reader_init ?a_Reader_has_more ?i_Reader_has_more ?l_Reader_has_more ?c_Reader_has_more ?k_Reader_has_more ?a_Reader_take ?i_Reader_take ?l_Reader_take ?c_Reader_take ?k_Reader_take ?a_Reader_take_row ?i_Reader_take_row ?l_Reader_take_row ?c_Reader_take_row ?k_Reader_take_row ?a_answers ?l_answers ?c_answers ?k_answers ?a_answer_call ?l_answer_call ?c_answer_call ?k_answer_call ?a_answer_phrase ?l_answer_phrase ?c_answer_phrase ?k_answer_phrase ?a_answer_pair ?l_answer_pair ?c_answer_pair ?k_answer_pair ?a_answer_prices ?l_answer_prices ?c_answer_prices ?k_answer_prices ?a_answer_translate ?l_answer_translate ?c_answer_translate ?k_answer_translate ?a_answer_force ?l_answer_force ?c_answer_force ?k_answer_force ?a_answer_cost ?l_answer_cost ?c_answer_cost ?k_answer_cost ?a_answer_some ?l_answer_some ?c_answer_some ?k_answer_some ?a_told_phrases ?l_told_phrases ?c_told_phrases ?k_told_phrases ?a_told_way_if_any ?l_told_way_if_any ?c_told_way_if_any ?k_told_way_if_any ?a_told_way ?l_told_way ?c_told_way ?k_told_way ?a_counted ?l_counted ?c_counted ?k_counted ?pg_Phrase ?hd_Phrase ?po_Phrase ?sa_Phrase ?mk_Phrase ?kc_Phrase ?n_Phrase_number ?n_Phrase_cost ?n_Phrase_source ?n_Phrase_target ?pg_Machine ?hd_Machine ?po_Machine ?sa_Machine ?mk_Machine ?kc_Machine ?n_Machine_phrases ?n_Machine_fresh_number ?n_Machine_pair_costs ?n_Machine_other ?n_Machine_jump ?n_Machine_wide ?pg_Trail ?hd_Trail ?po_Trail ?sa_Trail ?mk_Trail ?kc_Trail ?n_Trail_cost ?n_Trail_steps ?n_Trail_words ?n_Trail_taken ?n_Trail_ended ?pg_Reader ?hd_Reader ?po_Reader ?sa_Reader ?mk_Reader ?kc_Reader ?n_Reader_numbers ?n_Reader_place ?v_WRONG ?v_NO_SUCH_PHRASE ?v_FULL ?v_NO_WAY ?v_HIGHEST_WORD ?v_HIGHEST_COST ?v_LONGEST_SOURCE ?v_LONGEST_TARGET ?v_WIDEST ?v_MOST_PHRASES ?v_MOST_PAIRS ?v_NO_MORE ?v_PHRASE ?v_GONE ?v_PAIR ?v_PRICES ?v_TRANSLATE ?v_FORCE ?v_COST ?v_SOME ?v_PHRASES ?v_LONGEST_SENTENCE ?v_LONGEST_SAID ?v_LONGEST_FOR_SOME ?v_MOST_STEPS ?v_MOST_SENTENCES ?z_abs ?z_all ?z_len ?z_list ?z_min ?z_range ?z_sorted ?z_tuple
    (case aC_Phrase => k_is)
    (case aC_Machine => k_is)
    (case aC_Trail => k_is)
    (case aC_Reader => k_is)
    (case a_Phrase_init => k_is)
    (case i_Phrase_init => k_is)
    (case l_Phrase_init => k_is)
    (case c_Phrase_init => k_is)
    (case k_Phrase_init => k_is)
    (case a_Machine_init => k_is)
    (case i_Machine_init => k_is)
    (case l_Machine_init => k_is)
    (case c_Machine_init => k_is)
    (case k_Machine_init => k_is)
    (case a_Machine_add_phrase => k_is)
    (case i_Machine_add_phrase => k_is)
    (case l_Machine_add_phrase => k_is)
    (case c_Machine_add_phrase => k_is)
    (case k_Machine_add_phrase => k_is)
    (case a_Machine_drop_phrase => k_is)
    (case i_Machine_drop_phrase => k_is)
    (case l_Machine_drop_phrase => k_is)
    (case c_Machine_drop_phrase => k_is)
    (case k_Machine_drop_phrase => k_is)
    (case a_Machine_phrase_numbered => k_is)
    (case i_Machine_phrase_numbered => k_is)
    (case l_Machine_phrase_numbered => k_is)
    (case c_Machine_phrase_numbered => k_is)
    (case k_Machine_phrase_numbered => k_is)
    (case a_Machine_tell_pair => k_is)
    (case i_Machine_tell_pair => k_is)
    (case l_Machine_tell_pair => k_is)
    (case c_Machine_tell_pair => k_is)
    (case k_Machine_tell_pair => k_is)
    (case a_Machine_set_prices => k_is)
    (case i_Machine_set_prices => k_is)
    (case l_Machine_set_prices => k_is)
    (case c_Machine_set_prices => k_is)
    (case k_Machine_set_prices => k_is)
    (case a_Machine_cost_behind => k_is)
    (case i_Machine_cost_behind => k_is)
    (case l_Machine_cost_behind => k_is)
    (case c_Machine_cost_behind => k_is)
    (case k_Machine_cost_behind => k_is)
    (case a_are_words => k_is)
    (case l_are_words => k_is)
    (case c_are_words => k_is)
    (case k_are_words => k_is)
    (case a_is_sentence => k_is)
    (case l_is_sentence => k_is)
    (case c_is_sentence => k_is)
    (case k_is_sentence => k_is)
    (case a_is_source => k_is)
    (case l_is_source => k_is)
    (case c_is_source => k_is)
    (case k_is_source => k_is)
    (case a_Trail_init => k_is)
    (case i_Trail_init => k_is)
    (case l_Trail_init => k_is)
    (case c_Trail_init => k_is)
    (case k_Trail_init => k_is)
    (case a_cheapest_way => k_is)
    (case l_cheapest_way => k_is)
    (case c_cheapest_way => k_is)
    (case k_cheapest_way => k_is)
    (case a_cheapest_way_to_say => k_is)
    (case l_cheapest_way_to_say => k_is)
    (case c_cheapest_way_to_say => k_is)
    (case k_cheapest_way_to_say => k_is)
    (case a_cheapest_sentences => k_is)
    (case l_cheapest_sentences => k_is)
    (case c_cheapest_sentences => k_is)
    (case k_cheapest_sentences => k_is)
    (case a_way_by_steps => k_is)
    (case l_way_by_steps => k_is)
    (case c_way_by_steps => k_is)
    (case k_way_by_steps => k_is)
    (case a_whole_ways => k_is)
    (case l_whole_ways => k_is)
    (case c_whole_ways => k_is)
    (case k_whole_ways => k_is)
    (case a_beginning => k_is)
    (case l_beginning => k_is)
    (case c_beginning => k_is)
    (case k_beginning => k_is)
    (case a_is_whole => k_is)
    (case l_is_whole => k_is)
    (case c_is_whole => k_is)
    (case k_is_whole => k_is)
    (case a_bits_between => k_is)
    (case l_bits_between => k_is)
    (case c_bits_between => k_is)
    (case k_bits_between => k_is)
    (case a_may_become => k_is)
    (case l_may_become => k_is)
    (case c_may_become => k_is)
    (case k_may_become => k_is)
    (case a_last_word => k_is)
    (case l_last_word => k_is)
    (case c_last_word => k_is)
    (case k_last_word => k_is)
    (case a_closed => k_is)
    (case l_closed => k_is)
    (case c_closed => k_is)
    (case k_closed => k_is)
    (case a_order_of => k_is)
    (case l_order_of => k_is)
    (case c_order_of => k_is)
    (case k_order_of => k_is)
    (case a_cheapest_of => k_is)
    (case l_cheapest_of => k_is)
    (case c_cheapest_of => k_is)
    (case k_cheapest_of => k_is)
    (case a_taken_and_last_word => k_is)
    (case l_taken_and_last_word => k_is)
    (case c_taken_and_last_word => k_is)
    (case k_taken_and_last_word => k_is)
    (case a_taken_and_words => k_is)
    (case l_taken_and_words => k_is)
    (case c_taken_and_words => k_is)
    (case k_taken_and_words => k_is)
    (case a_words_of => k_is)
    (case l_words_of => k_is)
    (case c_words_of => k_is)
    (case k_words_of => k_is)
    (case a_first_of_each => k_is)
    (case l_first_of_each => k_is)
    (case c_first_of_each => k_is)
    (case k_first_of_each => k_is)
    (case a_longer_trails => k_is)
    (case l_longer_trails => k_is)
    (case c_longer_trails => k_is)
    (case k_longer_trails => k_is)
    (case a_may_step => k_is)
    (case l_may_step => k_is)
    (case c_may_step => k_is)
    (case k_may_step => k_is)
    (case a_stepped => k_is)
    (case l_stepped => k_is)
    (case c_stepped => k_is)
    (case k_stepped => k_is)
    (case a_cost_of_words => k_is)
    (case l_cost_of_words => k_is)
    (case c_cost_of_words => k_is)
    (case k_cost_of_words => k_is)
    (case a_Reader_init => k_is)
    (case i_Reader_init => k_is)
    (case l_Reader_init => k_is)
    (case c_Reader_init => k_is)
    (case k_Reader_init => k_is)
    (case a_Reader_has_more => k_is)
    (case i_Reader_has_more => k_is)
    (case l_Reader_has_more => k_is)
    (case c_Reader_has_more => k_is)
    (case k_Reader_has_more => k_is)
    (case a_Reader_take => k_is)
    (case i_Reader_take => k_is)
    (case l_Reader_take => k_is)
    (case c_Reader_take => k_is)
    (case k_Reader_take => k_is)
    (case a_Reader_take_row => k_is)
    (case i_Reader_take_row => k_is)
    (case l_Reader_take_row => k_is)
    (case c_Reader_take_row => k_is)
    (case k_Reader_take_row => k_is)
    (case a_answers => k_is)
    (case l_answers => k_is)
    (case c_answers => k_is)
    (case k_answers => k_is)
    (case a_answer_call => k_is)
    (case l_answer_call => k_is)
    (case c_answer_call => k_is)
    (case k_answer_call => k_is)
    (case a_answer_phrase => k_is)
    (case l_answer_phrase => k_is)
    (case c_answer_phrase => k_is)
    (case k_answer_phrase => k_is)
    (case a_answer_pair => k_is)
    (case l_answer_pair => k_is)
    (case c_answer_pair => k_is)
    (case k_answer_pair => k_is)
    (case a_answer_prices => k_is)
    (case l_answer_prices => k_is)
    (case c_answer_prices => k_is)
    (case k_answer_prices => k_is)
    (case a_answer_translate => k_is)
    (case l_answer_translate => k_is)
    (case c_answer_translate => k_is)
    (case k_answer_translate => k_is)
    (case a_answer_force => k_is)
    (case l_answer_force => k_is)
    (case c_answer_force => k_is)
    (case k_answer_force => k_is)
    (case a_answer_cost => k_is)
    (case l_answer_cost => k_is)
    (case c_answer_cost => k_is)
    (case k_answer_cost => k_is)
    (case a_answer_some => k_is)
    (case l_answer_some => k_is)
    (case c_answer_some => k_is)
    (case k_answer_some => k_is)
    (case a_told_phrases => k_is)
    (case l_told_phrases => k_is)
    (case c_told_phrases => k_is)
    (case k_told_phrases => k_is)
    (case a_told_way_if_any => k_is)
    (case l_told_way_if_any => k_is)
    (case c_told_way_if_any => k_is)
    (case k_told_way_if_any => k_is)
    (case a_told_way => k_is)
    (case l_told_way => k_is)
    (case c_told_way => k_is)
    (case k_told_way => k_is)
    (case a_counted => k_is)
    (case l_counted => k_is)
    (case c_counted => k_is)
    (case k_counted => k_is)
    (case pg_Phrase => k_is)
    (case hd_Phrase => k_is)
    (case po_Phrase => k_is)
    (case sa_Phrase => k_is)
    (case mk_Phrase => k_is)
    (case kc_Phrase => k_is)
    (case n_Phrase_number => k_is)
    (case n_Phrase_cost => k_is)
    (case n_Phrase_source => k_is)
    (case n_Phrase_target => k_is)
    (case pg_Machine => k_is)
    (case hd_Machine => k_is)
    (case po_Machine => k_is)
    (case sa_Machine => k_is)
    (case mk_Machine => k_is)
    (case kc_Machine => k_is)
    (case n_Machine_phrases => k_is)
    (case n_Machine_fresh_number => k_is)
    (case n_Machine_pair_costs => k_is)
    (case n_Machine_other => k_is)
    (case n_Machine_jump => k_is)
    (case n_Machine_wide => k_is)
    (case pg_Trail => k_is)
    (case hd_Trail => k_is)
    (case po_Trail => k_is)
    (case sa_Trail => k_is)
    (case mk_Trail => k_is)
    (case kc_Trail => k_is)
    (case n_Trail_cost => k_is)
    (case n_Trail_steps => k_is)
    (case n_Trail_words => k_is)
    (case n_Trail_taken => k_is)
    (case n_Trail_ended => k_is)
    (case pg_Reader => k_is)
    (case hd_Reader => k_is)
    (case po_Reader => k_is)
    (case sa_Reader => k_is)
    (case mk_Reader => k_is)
    (case kc_Reader => k_is)
    (case n_Reader_numbers => k_is)
    (case n_Reader_place => k_is)
    (case v_WRONG => k_is)
    (case v_NO_SUCH_PHRASE => k_is)
    (case v_FULL => k_is)
    (case v_NO_WAY => k_is)
    (case v_HIGHEST_WORD => k_is)
    (case v_HIGHEST_COST => k_is)
    (case v_LONGEST_SOURCE => k_is)
    (case v_LONGEST_TARGET => k_is)
    (case v_WIDEST => k_is)
    (case v_MOST_PHRASES => k_is)
    (case v_MOST_PAIRS => k_is)
    (case v_NO_MORE => k_is)
    (case v_PHRASE => k_is)
    (case v_GONE => k_is)
    (case v_PAIR => k_is)
    (case v_PRICES => k_is)
    (case v_TRANSLATE => k_is)
    (case v_FORCE => k_is)
    (case v_COST => k_is)
    (case v_SOME => k_is)
    (case v_PHRASES => k_is)
    (case v_LONGEST_SENTENCE => k_is)
    (case v_LONGEST_SAID => k_is)
    (case v_LONGEST_FOR_SOME => k_is)
    (case v_MOST_STEPS => k_is)
    (case v_MOST_SENTENCES => k_is)
    (case z_abs => k_is)
    (case z_all => k_is)
    (case z_len => k_is)
    (case z_list => k_is)
    (case z_min => k_is)
    (case z_range => k_is)
    (case z_sorted => k_is)
    (case z_tuple => k_is)
  case S =>
    intro K H xs a hO hwi hask hx
    cases hx with
    | cons h1 h2 =>
      cases h2
      cases h1 with
      | lst hs ha =>
        have e := L2.ints_dw a.1 _ ha
        subst e
        exact ⟨_, a.1, rfl, hs, hask, fun H' p hp => .lst (L2.SqL.of hp) (L2.dw_ints _)⟩
#print axioms PySem.Challenge.cw_phraseways_s01_answers_holds
