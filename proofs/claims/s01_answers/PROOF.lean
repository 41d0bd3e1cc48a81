import PyProof.Rows.All
import VbceahSpec
import PyVbceah
import KE.KDictItemsList
import KE.KDictWalk
import HandS.ForSpec
import HandS.Dict
import HandS.Iter
import HandS.DictTup
import PyProof.ListMulRoad
import PyProof.FactsAll.tuple_2
import KE.KTupSum
import HandS.TupMul
import KE.KDictDisplayH
import HandS.Comp
import HandS.Codes
import HandS.CallLocal
import Wide.All
import OpenK.AllK
import Wide.FinOn
import Open.SpecLaws
import KE.OsGo
import HandS.TupAny
import HandS.Flow
import HandS.SetFor
import HandS.SortRule
import PyProof.Rows.AssignMoreSeq
import HandS.Conv
import HandS.SortInts
import PySem.Challenge.RW_twodesks_s01_answers
/-! Mathematics of the desks: when work is done. Core Lean alone. -/
namespace Rm
open Vbceah
/-- each stretch ends behind its beginning -/
def Up (e : Breaks) : Prop := ∀ b ∈ e, b.1 < b.2
theorem Up.tl {b : Nat × Nat} {l : Breaks} (h : Up (b :: l)) : Up l := fun x hx => h x (List.mem_cons_of_mem _ hx)
theorem Up.hd {b : Nat × Nat} {l : Breaks} (h : Up (b :: l)) : b.1 < b.2 := h b (List.mem_cons_self ..)
theorem up_nil : Up [] := fun _ h => nomatch h
theorem up_of : ∀ {e : Breaks}, behindOther e = true → Up e
  | [], _ => up_nil
  | [x], h => fun b hb => by
    have e : b = x := by simpa using hb
    subst e
    simpa [behindOther] using h
  | x :: y :: l, h => fun b hb => by
    have h2 : (decide (x.1 < x.2 ∧ x.2 ≤ y.1) && behindOther (y :: l)) = true := h
    rw [Bool.and_eq_true, decide_eq_true_eq] at h2
    rcases List.mem_cons.mp hb with rfl | hb
    · exact h2.1.1
    · exact up_of h2.2 b hb
theorem worked_nil (t w : Nat) : worked [] t w = t + w := rfl
theorem worked_cons (b : Nat × Nat) (l : Breaks) (t w : Nat) :
    worked (b :: l) t w = if w = 0 then t else if b.2 ≤ t then worked l t w else if w ≤ b.1 - t then t + w else worked l b.2 (w - (b.1 - t)) := rfl
theorem worked_zero (e : Breaks) (t : Nat) : worked e t 0 = t := by
  cases e with
  | nil => rfl
  | cons b l => rw [worked_cons, if_pos rfl]
theorem worked_ge : ∀ {e : Breaks}, Up e → ∀ (t w : Nat), t + w ≤ worked e t w
  | [], _, t, w => Nat.le_refl _
  | b :: l, h, t, w => by
    rw [worked_cons]
    by_cases c0 : w = 0
    · rw [if_pos c0]; omega
    rw [if_neg c0]
    by_cases c1 : b.2 ≤ t
    · rw [if_pos c1]; exact worked_ge h.tl t w
    rw [if_neg c1]
    by_cases c2 : w ≤ b.1 - t
    · rw [if_pos c2]; exact Nat.le_refl _
    rw [if_neg c2]
    have i := worked_ge h.tl b.2 (w - (b.1 - t))
    have u := h.hd
    omega
theorem worked_mono : ∀ {e : Breaks}, Up e → ∀ {t t' w w' : Nat}, t ≤ t' → w ≤ w' → worked e t w ≤ worked e t' w'
  | [], _, t, t', w, w', h1, h2 => by rw [worked_nil, worked_nil]; omega
  | b :: l, h, t, t', w, w', h1, h2 => by
    have u := h.hd
    by_cases c0 : w = 0
    · subst c0
      rw [worked_zero]
      have i := worked_ge h t' w'
      omega
    have c0' : ¬ w' = 0 := by omega
    rw [worked_cons, worked_cons, if_neg c0, if_neg c0']
    by_cases c1 : b.2 ≤ t
    · rw [if_pos c1, if_pos (by omega)]
      exact worked_mono h.tl h1 h2
    rw [if_neg c1]
    by_cases c1' : b.2 ≤ t'
    · rw [if_pos c1']
      by_cases c2 : w ≤ b.1 - t
      · rw [if_pos c2]
        have i := worked_ge h.tl t' w'
        omega
      · rw [if_neg c2]
        exact worked_mono h.tl c1' (by omega)
    rw [if_neg c1']
    by_cases c2 : w ≤ b.1 - t
    · rw [if_pos c2]
      by_cases c2' : w' ≤ b.1 - t'
      · rw [if_pos c2']; omega
      · rw [if_neg c2']
        have i := worked_ge h.tl b.2 (w' - (b.1 - t'))
        omega
    · rw [if_neg c2, if_neg (by omega)]
      exact worked_mono h.tl (Nat.le_refl _) (by omega)
/-- work in two parts is work as a whole -/
theorem worked_add : ∀ {e : Breaks}, Up e → ∀ (t a b : Nat), worked e (worked e t a) b = worked e t (a + b)
  | [], _, t, a, b => by rw [worked_nil, worked_nil, worked_nil]; omega
  | c :: l, h, t, a, b => by
    have u := h.hd
    by_cases ca : a = 0
    · subst ca
      rw [worked_zero, Nat.zero_add]
    by_cases cb : b = 0
    · subst cb
      rw [worked_zero, Nat.add_zero]
    have cab : ¬ a + b = 0 := by omega
    rw [worked_cons c l t a, worked_cons c l t (a + b), if_neg ca, if_neg cab]
    by_cases c1 : c.2 ≤ t
    · rw [if_pos c1, if_pos c1, worked_cons, if_neg cb]
      have i := worked_ge h.tl t a
      rw [if_pos (by omega)]
      exact worked_add h.tl t a b
    rw [if_neg c1, if_neg c1]
    by_cases c2 : a ≤ c.1 - t
    · rw [if_pos c2, worked_cons, if_neg cb, if_neg (by omega)]
      by_cases c3 : b ≤ c.1 - (t + a)
      · rw [if_pos c3, if_pos (by omega)]; omega
      · rw [if_neg c3, if_neg (by omega)]
        congr 1; omega
    · rw [if_neg c2, if_neg (by omega), worked_cons, if_neg cb]
      have i := worked_ge h.tl c.2 (a - (c.1 - t))
      rw [if_pos (by omega), worked_add h.tl]
      congr 1; omega
end Rm

/-! Mathematics of the search through whole orders: the table by progress holds the least ends. Core Lean alone. -/
namespace Rm
open Vbceah
abbrev Stand := List Nat × Clock
section
variable (bs : List Book) (e1 e2 : Breaks)
/-- one sheet more, of the book b -/
def nextOf (x : Stand) (b : Nat) : Option Stand := ((bookAt bs b)[x.1.getD b 0]?).map fun s => (x.1.set b (x.1.getD b 0 + 1), placed e1 e2 x.2 s)
inductive Path : Nat → Stand → Stand → Prop
  | nil (x : Stand) : Path 0 x x
  | cons {n b : Nat} {x y z : Stand} : b < bs.length → nextOf bs e1 e2 x b = some y → Path n y z → Path (n + 1) x z
/-- how long the first desk computes all that's behind -/
def workOf (p : List Nat) : Nat := ((List.range bs.length).map fun b => (((bookAt bs b).take (p.getD b 0)).map Sheet.first).sum).sum
structure Fit (x : Stand) : Prop where
  len : x.1.length = bs.length
  le : ∀ b, b < bs.length → x.1.getD b 0 ≤ (bookAt bs b).length
  one : x.2.one = worked e1 0 (workOf bs x.1)
end
section
variable {bs : List Book} {e1 e2 : Breaks}
theorem nextOf_some {x y : Stand} {b : Nat} (h : nextOf bs e1 e2 x b = some y) : ∃ s, (bookAt bs b)[x.1.getD b 0]? = some s ∧ y = (x.1.set b (x.1.getD b 0 + 1), placed e1 e2 x.2 s) := by
  unfold nextOf at h
  cases e : (bookAt bs b)[x.1.getD b 0]? with
  | none => rw [e] at h; cases h
  | some s =>
    rw [e] at h
    exact ⟨s, rfl, (Option.some.inj h).symm⟩
theorem nextOf_of {x : Stand} {b : Nat} {s : Sheet} (h : (bookAt bs b)[x.1.getD b 0]? = some s) : nextOf bs e1 e2 x b = some (x.1.set b (x.1.getD b 0 + 1), placed e1 e2 x.2 s) := by
  unfold nextOf
  rw [h]
  rfl
/-- a sum in which one part grows -/
theorem sum_one {f g : Nat → Nat} {b k : Nat} : ∀ {n : Nat}, b < n → (∀ i, i < n → i ≠ b → g i = f i) → g b = f b + k → ((List.range n).map g).sum = ((List.range n).map f).sum + k
  | 0, h, _, _ => by omega
  | n + 1, h, h1, h2 => by
    rw [List.range_succ, List.map_append, List.map_append, List.sum_append, List.sum_append]
    simp only [List.map_cons, List.map_nil, List.sum_cons, List.sum_nil]
    by_cases c : b = n
    · subst c
      have e : (List.range b).map g = (List.range b).map f := List.map_congr_left fun i hi => h1 i (by have := List.mem_range.mp hi; omega) (by have := List.mem_range.mp hi; omega)
      rw [e, h2]; omega
    · have i := sum_one (n := n) (by omega) (fun i hi hb => h1 i (by omega) hb) h2
      rw [i, h1 n (by omega) (fun z => c z.symm)]; omega
theorem getD_set_same {l : List Nat} {b v : Nat} (h : b < l.length) : (l.set b v).getD b 0 = v := by
  rw [List.getD_eq_getElem?_getD, List.getElem?_set_self h]; rfl
theorem getD_set_ne {l : List Nat} {b i v : Nat} (h : i ≠ b) : (l.set b v).getD i 0 = l.getD i 0 := by
  rw [List.getD_eq_getElem?_getD, List.getD_eq_getElem?_getD, List.getElem?_set_ne (fun z => h z.symm)]
theorem take_sum {l : List Sheet} {i : Nat} {s : Sheet} (h : l[i]? = some s) : ((l.take (i + 1)).map Sheet.first).sum = ((l.take i).map Sheet.first).sum + s.first := by
  rw [List.take_add_one, h, List.map_append, List.sum_append]
  simp
theorem workOf_next {x : Stand} {b : Nat} {s : Sheet} (hl : x.1.length = bs.length) (hb : b < bs.length) (h : (bookAt bs b)[x.1.getD b 0]? = some s) :
    workOf bs (x.1.set b (x.1.getD b 0 + 1)) = workOf bs x.1 + s.first := by
  unfold workOf
  refine sum_one hb (fun i hi hne => ?_) ?_
  · rw [getD_set_ne hne]
  · rw [getD_set_same (by rw [hl]; exact hb), take_sum h]
theorem Fit.next (u1 : Up e1) {x y : Stand} {b : Nat} (F : Fit bs e1 x) (hb : b < bs.length) (h : nextOf bs e1 e2 x b = some y) : Fit bs e1 y := by
  obtain ⟨s, hs, rfl⟩ := nextOf_some h
  refine ⟨by rw [List.length_set]; exact F.len, fun i hi => ?_, ?_⟩
  · by_cases c : i = b
    · subst c
      rw [getD_set_same (by rw [F.len]; exact hi)]
      have := (List.getElem?_eq_some_iff.mp hs).1
      omega
    · rw [getD_set_ne c]
      exact F.le i hi
  · rw [workOf_next F.len hb hs]
    show worked e1 x.2.one s.first = _
    rw [F.one, worked_add u1]
theorem Path.fit (u1 : Up e1) {n : Nat} {x y : Stand} (h : Path bs e1 e2 n x y) : Fit bs e1 x → Fit bs e1 y := by
  induction h with
  | nil => exact id
  | cons hb hn _ ih => exact fun F => ih (F.next u1 hb hn)
/-- the same sheets behind, the second desk free no later -/
def Ahead (x y : Stand) : Prop := x.1 = y.1 ∧ x.2.one = y.2.one ∧ x.2.two ≤ y.2.two
theorem Ahead.next (u2 : Up e2) {x x' y' : Stand} {b : Nat} (A : Ahead x x') (h : nextOf bs e1 e2 x' b = some y') : ∃ y, nextOf bs e1 e2 x b = some y ∧ Ahead y y' := by
  obtain ⟨a1, a2, a3⟩ := A
  obtain ⟨s, hs, rfl⟩ := nextOf_some h
  rw [← a1] at hs
  refine ⟨_, nextOf_of hs, by rw [a1], ?_, ?_⟩
  · show worked e1 x.2.one s.first = worked e1 x'.2.one s.first
    rw [a2]
  · show worked e2 (max x.2.two (worked e1 x.2.one s.first)) s.second ≤ worked e2 (max x'.2.two (worked e1 x'.2.one s.first)) s.second
    rw [a2]
    exact worked_mono u2 (by omega) (Nat.le_refl _)
/-! ### the table -/
theorem mem_lesserIn {p : List Nat} {c : Clock} {y : Stand} : ∀ {m : Reach}, y ∈ lesserIn m p c → y = (p, c) ∨ y ∈ m
  | [], h => .inl (by simpa [lesserIn] using h)
  | x :: l, h => by
    unfold lesserIn at h
    by_cases c1 : x.1 = p
    · rw [if_pos c1] at h
      by_cases c2 : c.two < x.2.two
      · rw [if_pos c2] at h
        rcases List.mem_cons.mp h with h | h
        · exact .inl h
        · exact .inr (List.mem_cons_of_mem _ h)
      · rw [if_neg c2] at h
        exact .inr h
    · rw [if_neg c1] at h
      rcases List.mem_cons.mp h with h | h
      · exact .inr (h ▸ List.mem_cons_self ..)
      · rcases mem_lesserIn h with h | h
        · exact .inl h
        · exact .inr (List.mem_cons_of_mem _ h)
theorem has_lesserIn {p : List Nat} {c : Clock} : ∀ {m : Reach}, ∃ d, (p, d) ∈ lesserIn m p c ∧ d.two ≤ c.two
  | [] => ⟨c, List.mem_cons_self .., Nat.le_refl _⟩
  | x :: l => by
    unfold lesserIn
    by_cases c1 : x.1 = p
    · rw [if_pos c1]
      by_cases c2 : c.two < x.2.two
      · rw [if_pos c2]
        exact ⟨c, List.mem_cons_self .., Nat.le_refl _⟩
      · rw [if_neg c2]
        exact ⟨x.2, by rw [← c1]; exact List.mem_cons_self .., by omega⟩
    · rw [if_neg c1]
      obtain ⟨d, h1, h2⟩ := has_lesserIn (p := p) (c := c) (m := l)
      exact ⟨d, List.mem_cons_of_mem _ h1, h2⟩
theorem keeps_lesserIn {p : List Nat} {c : Clock} {y : Stand} : ∀ {m : Reach}, y ∈ m → ∃ d, (y.1, d) ∈ lesserIn m p c ∧ d.two ≤ y.2.two
  | [], h => nomatch h
  | x :: l, h => by
    unfold lesserIn
    by_cases c1 : x.1 = p
    · rw [if_pos c1]
      by_cases c2 : c.two < x.2.two
      · rw [if_pos c2]
        rcases List.mem_cons.mp h with rfl | h
        · exact ⟨c, by rw [c1]; exact List.mem_cons_self .., by omega⟩
        · exact ⟨y.2, List.mem_cons_of_mem _ h, Nat.le_refl _⟩
      · rw [if_neg c2]
        exact ⟨y.2, h, Nat.le_refl _⟩
    · rw [if_neg c1]
      rcases List.mem_cons.mp h with rfl | h
      · exact ⟨y.2, List.mem_cons_self .., Nat.le_refl _⟩
      · obtain ⟨d, h1, h2⟩ := keeps_lesserIn (p := p) (c := c) h
        exact ⟨d, List.mem_cons_of_mem _ h1, h2⟩
/-- one turn of the inner walk -/
def put1 (bs : List Book) (e1 e2 : Breaks) (x : Stand) (m : Reach) (b : Nat) : Reach := match nextOf bs e1 e2 x b with
  | none => m
  | some y => lesserIn m y.1 y.2
def putAll (bs : List Book) (e1 e2 : Breaks) (x : Stand) (m : Reach) (l : List Nat) : Reach := l.foldl (put1 bs e1 e2 x) m
theorem put1_eq (x : Stand) (m : Reach) (b : Nat) : (match (bookAt bs b)[x.1.getD b 0]? with
  | none => m
  | some s => lesserIn m (x.1.set b (x.1.getD b 0 + 1)) (placed e1 e2 x.2 s)) = put1 bs e1 e2 x m b := by
  unfold put1 nextOf
  cases (bookAt bs b)[x.1.getD b 0]? <;> rfl
theorem further_eq (r : Reach) : further bs e1 e2 r = r.foldl (fun m x => putAll bs e1 e2 x m (List.range bs.length)) [] := by
  unfold further putAll
  congr 1
  funext m x
  congr 1
  funext m b
  exact put1_eq x m b
theorem mem_put1 {x y : Stand} {m : Reach} {b : Nat} (h : y ∈ put1 bs e1 e2 x m b) : nextOf bs e1 e2 x b = some y ∨ y ∈ m := by
  unfold put1 at h
  split at h
  · exact .inr h
  · rename_i z hz
    rcases mem_lesserIn h with h | h
    · exact .inl (by rw [hz, h])
    · exact .inr h
theorem keeps_put1 {x y : Stand} {m : Reach} {b : Nat} (h : y ∈ m) : ∃ d, (y.1, d) ∈ put1 bs e1 e2 x m b ∧ d.two ≤ y.2.two := by
  unfold put1
  split
  · exact ⟨y.2, h, Nat.le_refl _⟩
  · exact keeps_lesserIn h
theorem mem_putAll {x y : Stand} : ∀ {l : List Nat} {m : Reach}, y ∈ putAll bs e1 e2 x m l → (∃ b ∈ l, nextOf bs e1 e2 x b = some y) ∨ y ∈ m
  | [], m, h => .inr h
  | b :: l, m, h => by
    rcases mem_putAll (l := l) (m := put1 bs e1 e2 x m b) h with ⟨b', h1, h2⟩ | h
    · exact .inl ⟨b', List.mem_cons_of_mem _ h1, h2⟩
    · rcases mem_put1 h with h | h
      · exact .inl ⟨b, List.mem_cons_self .., h⟩
      · exact .inr h
theorem keeps_putAll {x y : Stand} : ∀ {l : List Nat} {m : Reach}, y ∈ m → ∃ d, (y.1, d) ∈ putAll bs e1 e2 x m l ∧ d.two ≤ y.2.two
  | [], m, h => ⟨y.2, h, Nat.le_refl _⟩
  | b :: l, m, h => by
    obtain ⟨d, h1, h2⟩ := keeps_put1 (bs := bs) (e1 := e1) (e2 := e2) (x := x) (b := b) h
    obtain ⟨d', h3, h4⟩ := keeps_putAll (l := l) h1
    exact ⟨d', h3, Nat.le_trans h4 h2⟩
theorem has_putAll {x y : Stand} {b : Nat} (hy : nextOf bs e1 e2 x b = some y) : ∀ {l : List Nat} {m : Reach}, b ∈ l → ∃ d, (y.1, d) ∈ putAll bs e1 e2 x m l ∧ d.two ≤ y.2.two
  | [], m, h => nomatch h
  | b' :: l, m, h => by
    rcases List.mem_cons.mp h with rfl | h
    · have q : put1 bs e1 e2 x m b = lesserIn m y.1 y.2 := by unfold put1; rw [hy]
      obtain ⟨d, h1, h2⟩ := has_lesserIn (p := y.1) (c := y.2) (m := m)
      rw [← q] at h1
      obtain ⟨d', h3, h4⟩ := keeps_putAll (l := l) h1
      exact ⟨d', h3, Nat.le_trans h4 h2⟩
    · exact has_putAll hy (l := l) h
theorem mem_fold {y : Stand} : ∀ {r : Reach} {m : Reach}, y ∈ r.foldl (fun m x => putAll bs e1 e2 x m (List.range bs.length)) m → (∃ x ∈ r, ∃ b, b < bs.length ∧ nextOf bs e1 e2 x b = some y) ∨ y ∈ m
  | [], m, h => .inr h
  | x :: r, m, h => by
    rcases mem_fold (r := r) h with ⟨x', h1, h2⟩ | h
    · exact .inl ⟨x', List.mem_cons_of_mem _ h1, h2⟩
    · rcases mem_putAll h with ⟨b, h1, h2⟩ | h
      · exact .inl ⟨x, List.mem_cons_self .., b, List.mem_range.mp h1, h2⟩
      · exact .inr h
theorem keeps_fold {y : Stand} : ∀ {r : Reach} {m : Reach}, y ∈ m → ∃ d, (y.1, d) ∈ r.foldl (fun m x => putAll bs e1 e2 x m (List.range bs.length)) m ∧ d.two ≤ y.2.two
  | [], m, h => ⟨y.2, h, Nat.le_refl _⟩
  | x :: r, m, h => by
    obtain ⟨d, h1, h2⟩ := keeps_putAll (bs := bs) (e1 := e1) (e2 := e2) (x := x) (l := List.range bs.length) h
    obtain ⟨d', h3, h4⟩ := keeps_fold (r := r) h1
    exact ⟨d', h3, Nat.le_trans h4 h2⟩
theorem has_fold {x y : Stand} {b : Nat} (hb : b < bs.length) (hy : nextOf bs e1 e2 x b = some y) : ∀ {r : Reach} {m : Reach}, x ∈ r →
    ∃ d, (y.1, d) ∈ r.foldl (fun m x => putAll bs e1 e2 x m (List.range bs.length)) m ∧ d.two ≤ y.2.two
  | [], m, h => nomatch h
  | x' :: r, m, h => by
    rcases List.mem_cons.mp h with rfl | h
    · obtain ⟨d, h1, h2⟩ := has_putAll hy (l := List.range bs.length) (m := m) (List.mem_range.mpr hb)
      obtain ⟨d', h3, h4⟩ := keeps_fold (r := r) h1
      exact ⟨d', h3, Nat.le_trans h4 h2⟩
    · exact has_fold hb hy (r := r) h
theorem mem_further {r : Reach} {y : Stand} (h : y ∈ further bs e1 e2 r) : ∃ x ∈ r, ∃ b, b < bs.length ∧ nextOf bs e1 e2 x b = some y := by
  rw [further_eq] at h
  rcases mem_fold h with h | h
  · exact h
  · exact nomatch h
theorem has_further {r : Reach} {x y : Stand} {b : Nat} (hx : x ∈ r) (hb : b < bs.length) (hy : nextOf bs e1 e2 x b = some y) : ∃ d, (y.1, d) ∈ further bs e1 e2 r ∧ d.two ≤ y.2.two := by
  rw [further_eq]
  exact has_fold hb hy hx
theorem mem_reach {z : Stand} : ∀ {n : Nat} {r : Reach}, z ∈ reachFrom bs e1 e2 n r → ∃ x ∈ r, Path bs e1 e2 n x z
  | 0, r, h => ⟨z, h, .nil z⟩
  | n + 1, r, h => by
    obtain ⟨y, hy, P⟩ := mem_reach (n := n) (r := further bs e1 e2 r) h
    obtain ⟨x, hx, b, hb, hn⟩ := mem_further hy
    exact ⟨x, hx, .cons hb hn P⟩
theorem has_reach (u1 : Up e1) (u2 : Up e2) {z : Stand} : ∀ {n : Nat} {r : Reach} {x' : Stand}, (∀ x ∈ r, Fit bs e1 x) → (∃ x ∈ r, Ahead x x') → Path bs e1 e2 n x' z →
    ∃ d, (z.1, d) ∈ reachFrom bs e1 e2 n r ∧ d.two ≤ z.2.two
  | 0, r, x', _, ⟨x, hx, A⟩, P => by
    cases P
    exact ⟨x.2, by rw [← A.1]; exact hx, A.2.2⟩
  | n + 1, r, x', hr, ⟨x, hx, A⟩, P => by
    cases P with
    | cons hb hn P =>
      rename_i b y'
      obtain ⟨y, hy, Ay⟩ := A.next u2 hn
      obtain ⟨d, hd, hd2⟩ := has_further hx hb hy
      have hf : ∀ q ∈ further bs e1 e2 r, Fit bs e1 q := fun q hq => by
        obtain ⟨x0, hx0, b0, hb0, hn0⟩ := mem_further hq
        exact (hr x0 hx0).next u1 hb0 hn0
      refine has_reach u1 u2 (n := n) (r := further bs e1 e2 r) hf ⟨(y.1, d), hd, Ay.1, ?_, Nat.le_trans hd2 Ay.2.2⟩ P
      have F1 := hf _ hd
      have F2 := (hr x hx).next u1 hb hy
      rw [← Ay.2.1, F1.one, F2.one]
/-! ### the least end -/
theorem foldl_min {α : Type} (f : α → Nat) : ∀ (l : List α) (a : Nat), (l.foldl (fun m y => min m (f y)) a ≤ a) ∧ (∀ y ∈ l, l.foldl (fun m y => min m (f y)) a ≤ f y) ∧ (l.foldl (fun m y => min m (f y)) a = a ∨ ∃ y ∈ l, f y = l.foldl (fun m y => min m (f y)) a)
  | [], a => ⟨Nat.le_refl _, fun _ h => (nomatch h), .inl rfl⟩
  | x :: l, a => by
    obtain ⟨h1, h2, h3⟩ := foldl_min f l (min a (f x))
    rw [List.foldl_cons]
    refine ⟨by omega, fun y hy => ?_, ?_⟩
    · rcases List.mem_cons.mp hy with rfl | hy
      · omega
      · exact h2 y hy
    · rcases h3 with h3 | ⟨y, hy, h3⟩
      · by_cases c : a ≤ f x
        · exact .inl (by rw [h3]; omega)
        · exact .inr ⟨x, List.mem_cons_self .., by rw [h3]; omega⟩
      · exact .inr ⟨y, List.mem_cons_of_mem _ hy, h3⟩
/-- the least second clock of a table -/
def minTwo (d : Nat) : Reach → Nat
  | [] => d
  | x :: l => l.foldl (fun m y => min m y.2.two) x.2.two
theorem minTwo_is {d : Nat} {r : Reach} (h : r ≠ []) : (∃ y ∈ r, y.2.two = minTwo d r) ∧ ∀ y ∈ r, minTwo d r ≤ y.2.two := by
  cases r with
  | nil => exact absurd rfl h
  | cons x l =>
    obtain ⟨h1, h2, h3⟩ := foldl_min (fun y : Stand => y.2.two) l x.2.two
    refine ⟨?_, fun y hy => ?_⟩
    · rcases h3 with h3 | ⟨y, hy, h3⟩
      · exact ⟨x, List.mem_cons_self .., h3.symm⟩
      · exact ⟨y, List.mem_cons_of_mem _ hy, h3⟩
    · rcases List.mem_cons.mp hy with rfl | hy
      · exact h1
      · exact h2 y hy
theorem leastFrom_eq (p : List Nat) (c : Clock) : leastFrom bs e1 e2 p c = minTwo c.two (reachFrom bs e1 e2 (leftOf bs p) [(p, c)]) := by
  unfold leastFrom minTwo
  split <;> rename_i h <;> rw [h]
/-! ### how many sheets are left -/
theorem sum_set_succ : ∀ {l : List Nat} {b : Nat}, b < l.length → (l.set b (l.getD b 0 + 1)).sum = l.sum + 1
  | [], b, h => by simp at h
  | a :: l, 0, _ => by
    show (a + 1) + l.sum = a + l.sum + 1
    omega
  | a :: l, b + 1, h => by
    have i := sum_set_succ (l := l) (b := b) (by simpa using h)
    have e : (a :: l).getD (b + 1) 0 = l.getD b 0 := by simp
    rw [e]
    show a + (l.set b (l.getD b 0 + 1)).sum = a + l.sum + 1
    omega
theorem sum_getD : ∀ (l : List Nat), l.sum = ((List.range l.length).map fun b => l.getD b 0).sum
  | [] => rfl
  | a :: l => by
    rw [List.length_cons, List.range_succ_eq_map, List.map_cons, List.sum_cons, List.sum_cons, List.map_map]
    rw [sum_getD l]
    rfl
theorem sheetsIn_range (bs : List Book) : sheetsIn bs = ((List.range bs.length).map fun b => (bookAt bs b).length).sum := by
  unfold sheetsIn
  have h : ∀ (l : List Book), (l.map fun b => b.length) = (List.range l.length).map fun b => (bookAt l b).length := fun l => by
    refine List.ext_getElem (by simp) fun i h1 h2 => ?_
    simp only [List.length_map] at h1
    simp [bookAt, h1]
  rw [h]
theorem sum_le_range {f g : Nat → Nat} : ∀ {n : Nat}, (∀ b, b < n → f b ≤ g b) → ((List.range n).map f).sum ≤ ((List.range n).map g).sum
  | 0, _ => Nat.le_refl _
  | n + 1, h => by
    rw [List.range_succ, List.map_append, List.map_append, List.sum_append, List.sum_append]
    have i := sum_le_range (n := n) fun b hb => h b (by omega)
    have j := h n (by omega)
    simp only [List.map_cons, List.map_nil, List.sum_cons, List.sum_nil]
    omega
theorem sum_lt_range {f g : Nat → Nat} : ∀ {n : Nat}, ((List.range n).map f).sum < ((List.range n).map g).sum → ∃ b, b < n ∧ f b < g b
  | 0, h => by simp at h
  | n + 1, h => by
    rw [List.range_succ, List.map_append, List.map_append, List.sum_append, List.sum_append] at h
    simp only [List.map_cons, List.map_nil, List.sum_cons, List.sum_nil] at h
    by_cases c : f n < g n
    · exact ⟨n, by omega, c⟩
    · obtain ⟨b, h1, h2⟩ := sum_lt_range (n := n) (f := f) (g := g) (by omega)
      exact ⟨b, by omega, h2⟩
theorem Fit.sum_le {x : Stand} (F : Fit bs e1 x) : x.1.sum ≤ sheetsIn bs := by
  rw [sum_getD, sheetsIn_range, F.len]
  exact sum_le_range fun b hb => F.le b hb
theorem left_next {x y : Stand} {b : Nat} (F : Fit bs e1 x) (hb : b < bs.length) (h : nextOf bs e1 e2 x b = some y) : y.1.sum = x.1.sum + 1 := by
  obtain ⟨s, _, rfl⟩ := nextOf_some h
  exact sum_set_succ (by rw [F.len]; exact hb)
theorem some_next {x : Stand} (F : Fit bs e1 x) (h : x.1.sum < sheetsIn bs) : ∃ b y, b < bs.length ∧ nextOf bs e1 e2 x b = some y := by
  rw [sum_getD, sheetsIn_range, F.len] at h
  obtain ⟨b, hb, hlt⟩ := sum_lt_range h
  exact ⟨b, _, hb, nextOf_of (List.getElem?_eq_getElem hlt)⟩
theorem some_path (u1 : Up e1) : ∀ {n : Nat} {x : Stand}, Fit bs e1 x → x.1.sum + n = sheetsIn bs → ∃ z, Path bs e1 e2 n x z
  | 0, x, _, _ => ⟨x, .nil x⟩
  | n + 1, x, F, h => by
    obtain ⟨b, y, hb, hn⟩ := some_next (e2 := e2) F (by omega)
    obtain ⟨z, P⟩ := some_path u1 (n := n) (F.next u1 hb hn) (by have := left_next F hb hn; omega)
    exact ⟨z, .cons hb hn P⟩
theorem leftOf_sum {x : Stand} (F : Fit bs e1 x) : x.1.sum + leftOf bs x.1 = sheetsIn bs := by
  have := F.sum_le
  unfold leftOf
  omega
theorem reach_ne (u1 : Up e1) (u2 : Up e2) {x : Stand} (F : Fit bs e1 x) : reachFrom bs e1 e2 (leftOf bs x.1) [x] ≠ [] := by
  obtain ⟨z, P⟩ := some_path (e2 := e2) u1 F (leftOf_sum F)
  obtain ⟨d, hd, _⟩ := has_reach u1 u2 (r := [x]) (fun y hy => by rw [List.mem_singleton.mp hy]; exact F) ⟨x, List.mem_singleton.mpr rfl, rfl, rfl, Nat.le_refl _⟩ P
  intro e
  rw [e] at hd
  exact nomatch hd
/-- the least end is the end of some way, and no way ends sooner -/
theorem least_is (u1 : Up e1) (u2 : Up e2) {x : Stand} (F : Fit bs e1 x) :
    (∃ z, Path bs e1 e2 (leftOf bs x.1) x z ∧ z.2.two = leastFrom bs e1 e2 x.1 x.2) ∧ ∀ z, Path bs e1 e2 (leftOf bs x.1) x z → leastFrom bs e1 e2 x.1 x.2 ≤ z.2.two := by
  rw [leastFrom_eq]
  obtain ⟨⟨y, hy, ey⟩, hle⟩ := minTwo_is (d := x.2.two) (reach_ne u1 u2 F)
  refine ⟨?_, fun z P => ?_⟩
  · obtain ⟨x', hx', P⟩ := mem_reach hy
    rw [List.mem_singleton] at hx'
    subst hx'
    exact ⟨y, P, ey⟩
  · obtain ⟨d, hd, hd2⟩ := has_reach u1 u2 (r := [x]) (fun y hy => by rw [List.mem_singleton.mp hy]; exact F) ⟨x, List.mem_singleton.mpr rfl, rfl, rfl, Nat.le_refl _⟩ P
    exact Nat.le_trans (hle _ hd) hd2
/-- from where something is left, one book leads to the same least end -/
theorem some_best (u1 : Up e1) (u2 : Up e2) {x : Stand} (F : Fit bs e1 x) (h : x.1.sum < sheetsIn bs) :
    ∃ b y, b < bs.length ∧ nextOf bs e1 e2 x b = some y ∧ leastFrom bs e1 e2 y.1 y.2 = leastFrom bs e1 e2 x.1 x.2 := by
  obtain ⟨⟨z, P, ez⟩, hle⟩ := least_is u1 u2 F
  obtain ⟨n, hn⟩ : ∃ n, leftOf bs x.1 = n + 1 := ⟨leftOf bs x.1 - 1, by have := leftOf_sum F; omega⟩
  rw [hn] at P hle
  cases P with
  | cons hb hy P =>
    rename_i b y
    have Fy := F.next u1 hb hy
    have el : leftOf bs y.1 = n := by
      have h1 := left_next F hb hy
      have h2 := leftOf_sum F
      have h3 := leftOf_sum Fy
      omega
    obtain ⟨⟨z', P', ez'⟩, hle'⟩ := least_is u1 u2 Fy
    rw [el] at P' hle'
    refine ⟨b, y, hb, hy, Nat.le_antisymm ?_ ?_⟩
    · rw [← ez]
      exact hle' z P
    · rw [← ez']
      exact hle z' (.cons hb hy P')
end
end Rm

/-! The first order with the least end; how many orders there are; an order's standings. Core Lean alone. -/
namespace Rm
open Vbceah
section
variable {bs : List Book} {e1 e2 : Breaks}
/-! ### the first order -/
/-- with this book's next sheet behind, the least end is the goal -/
def leads (bs : List Book) (e1 e2 : Breaks) (goal : Nat) (x : Stand) (b : Nat) : Bool := match nextOf bs e1 e2 x b with
  | none => false
  | some y => leastFrom bs e1 e2 y.1 y.2 == goal
theorem find_range {p : Nat → Bool} {n b : Nat} (hb : b < n) (hp : p b = true) (hl : ∀ i, i < b → p i = false) : (List.range n).find? p = some b := by
  rw [List.find?_range_eq_some]
  exact ⟨hp, List.mem_range.mpr hb, fun j hj => by rw [hl j hj]; rfl⟩
theorem least_such {p : Nat → Bool} : ∀ {n : Nat}, p n = true → ∃ b, b ≤ n ∧ p b = true ∧ ∀ i, i < b → p i = false
  | 0, h => ⟨0, Nat.le_refl _, h, fun i hi => by omega⟩
  | n + 1, h => by
    by_cases c : ∃ m, m ≤ n ∧ p m = true
    · obtain ⟨m, hm, hp⟩ := c
      exact Classical.byContradiction fun hc => by
        have : ∀ k m, m ≤ k → k ≤ n → p m = false := by
          intro k
          induction k with
          | zero =>
            intro m hm hk
            cases e : p m with
            | false => rfl
            | true => exact absurd ⟨m, by omega, e, fun i hi => by omega⟩ hc
          | succ k ih =>
            intro m hm hk
            by_cases c2 : m ≤ k
            · exact ih m c2 (by omega)
            · cases e : p m with
              | false => rfl
              | true => exact absurd ⟨m, by omega, e, fun i hi => ih i (by omega) (by omega)⟩ hc
        rw [this n m hm (Nat.le_refl _)] at hp
        cases hp
    · refine ⟨n + 1, Nat.le_refl _, h, fun i hi => ?_⟩
      cases e : p i with
      | false => rfl
      | true => exact absurd ⟨i, by omega, e⟩ c
theorem bestFrom_succ (goal n : Nat) (x : Stand) : bestFrom bs e1 e2 goal (n + 1) x.1 x.2 = match (List.range bs.length).find? (leads bs e1 e2 goal x) with
    | none => []
    | some b => match nextOf bs e1 e2 x b with
      | none => []
      | some y => b :: bestFrom bs e1 e2 goal n y.1 y.2 := rfl
/-- a turn of the search for the first order -/
theorem best_step (u1 : Up e1) (u2 : Up e2) {x : Stand} {goal : Nat} (F : Fit bs e1 x) (h : x.1.sum < sheetsIn bs) (hg : leastFrom bs e1 e2 x.1 x.2 = goal) :
    ∃ b y, b < bs.length ∧ nextOf bs e1 e2 x b = some y ∧ leads bs e1 e2 goal x b = true ∧ (∀ i, i < b → leads bs e1 e2 goal x i = false) ∧
      leastFrom bs e1 e2 y.1 y.2 = goal ∧ ∀ n, bestFrom bs e1 e2 goal (n + 1) x.1 x.2 = b :: bestFrom bs e1 e2 goal n y.1 y.2 := by
  obtain ⟨b0, y0, hb0, hn0, hl0⟩ := some_best u1 u2 F h
  have p0 : leads bs e1 e2 goal x b0 = true := by
    unfold leads
    rw [hn0]
    show (leastFrom bs e1 e2 y0.1 y0.2 == goal) = true
    rw [hl0, hg]
    exact beq_self_eq_true _
  obtain ⟨b, hb, hp, hl⟩ := least_such p0
  have hb' : b < bs.length := by omega
  cases hn : nextOf bs e1 e2 x b with
  | none =>
    unfold leads at hp
    rw [hn] at hp
    cases hp
  | some y =>
    have hy : leastFrom bs e1 e2 y.1 y.2 = goal := by
      have q := hp
      unfold leads at q
      rw [hn] at q
      exact eq_of_beq q
    refine ⟨b, y, hb', by first | exact hn | rfl, hp, hl, hy, fun n => ?_⟩
    rw [bestFrom_succ, find_range hb' hp hl]
    dsimp only
    rw [hn]
theorem bestFrom_zero (goal : Nat) (p : List Nat) (c : Clock) : bestFrom bs e1 e2 goal 0 p c = [] := rfl
/-! ### the standing at first, and along an order -/
theorem zeros_getD (n b : Nat) : (zeros n).getD b 0 = 0 := by
  unfold zeros
  rw [List.getD_eq_getElem?_getD, List.getElem?_replicate]
  split <;> rfl
theorem workOf_zeros (bs : List Book) (n : Nat) : workOf bs (zeros n) = 0 := by
  unfold workOf
  have : ((List.range bs.length).map fun b => (((bookAt bs b).take ((zeros n).getD b 0)).map Sheet.first).sum) = (List.range bs.length).map fun _ => 0 :=
    List.map_congr_left fun b _ => by rw [zeros_getD]; rfl
  rw [this]
  induction bs.length with
  | zero => rfl
  | succ k ih => rw [List.range_succ, List.map_append, List.sum_append, ih]; rfl
def first0 (bs : List Book) : Stand := (zeros bs.length, ⟨0, 0⟩)
theorem fit_first : Fit bs e1 (first0 bs) := ⟨List.length_replicate, fun b _ => by show (zeros _).getD b 0 ≤ _; rw [zeros_getD]; exact Nat.zero_le _, by show 0 = worked e1 0 (workOf bs (zeros _)); rw [workOf_zeros, worked_zero]⟩
/-- the standings behind each sheet of an order -/
def trail (bs : List Book) (e1 e2 : Breaks) : Stand → List Nat → List Stand
  | _, [] => []
  | x, b :: l => match nextOf bs e1 e2 x b with
    | none => []
    | some y => y :: trail bs e1 e2 y l
/-- where an order ends -/
def lastOf (x : Stand) (l : List Stand) : Stand := l.getLastD x
/-- an order that can go on from these sheets behind -/
def Runs (bs : List Book) (had l : List Nat) : Prop := (∀ b ∈ l, b < bs.length) ∧ ∀ b, b < bs.length → (had ++ l).count b ≤ (bookAt bs b).length
theorem progress_len (bs : List Book) (l : List Nat) : (progress bs l).length = bs.length := by unfold progress; rw [List.length_map, List.length_range]
theorem progress_getD {bs : List Book} {l : List Nat} {b : Nat} (h : b < bs.length) : (progress bs l).getD b 0 = l.count b := by
  unfold progress doneOf
  rw [List.getD_eq_getElem?_getD, List.getElem?_map, List.getElem?_range h]
  rfl
theorem progress_snoc {bs : List Book} {had : List Nat} {b : Nat} (h : b < bs.length) : progress bs (had ++ [b]) = (progress bs had).set b (had.count b + 1) := by
  refine List.ext_getElem? fun i => ?_
  by_cases hi : i < bs.length
  · have g : ∀ l : List Nat, (progress bs l)[i]? = some (l.count i) := fun l => by
      unfold progress doneOf
      rw [List.getElem?_map, List.getElem?_range hi]
      rfl
    rw [List.getElem?_set, g, List.count_append]
    by_cases c : b = i
    · subst c
      rw [if_pos rfl, if_pos (by rw [progress_len]; exact h), List.count_singleton_self]
    · rw [if_neg c, g]
      have : List.count i [b] = 0 := by
        rw [List.count_eq_zero]
        simp only [List.mem_singleton]
        exact fun z => c z.symm
      rw [this]
      rfl
  · rw [List.getElem?_eq_none (by rw [progress_len]; omega), List.getElem?_eq_none (by rw [List.length_set, progress_len]; omega)]
theorem runs_next {had l : List Nat} {b : Nat} (R : Runs bs had (b :: l)) (c : Clock) :
    ∃ s, (bookAt bs b)[had.count b]? = some s ∧ nextOf bs e1 e2 (progress bs had, c) b = some (progress bs (had ++ [b]), placed e1 e2 c s) ∧ Runs bs (had ++ [b]) l := by
  have hb : b < bs.length := R.1 b (List.mem_cons_self ..)
  have hc := R.2 b hb
  rw [List.count_append, List.count_cons_self] at hc
  have hlt : had.count b < (bookAt bs b).length := by omega
  refine ⟨_, List.getElem?_eq_getElem hlt, ?_, fun i hi => R.1 i (List.mem_cons_of_mem _ hi), fun i hi => ?_⟩
  · have e : (progress bs had).getD b 0 = had.count b := progress_getD hb
    rw [nextOf_of (x := (progress bs had, c)) (s := (bookAt bs b)[had.count b]) (by show (bookAt bs b)[(progress bs had).getD b 0]? = _; rw [e]; exact List.getElem?_eq_getElem hlt), progress_snoc hb]
    show some ((progress bs had).set b ((progress bs had).getD b 0 + 1), _) = _
    rw [e]
  · have := R.2 i hi
    rw [List.append_assoc]
    exact this
/-- the standings along an order are the specification's clocks, with the progress beside them -/
theorem trail_is : ∀ {l had : List Nat} {c : Clock}, Runs bs had l →
    (trail bs e1 e2 (progress bs had, c) l).map Prod.snd = clocks e1 e2 c (sheetsOf bs l had) ∧ (trail bs e1 e2 (progress bs had, c) l).length = l.length ∧
    lastOf (progress bs had, c) (trail bs e1 e2 (progress bs had, c) l) = (progress bs (had ++ l), (sheetsOf bs l had).foldl (placed e1 e2) c)
  | [], had, c, _ => ⟨rfl, rfl, by rw [List.append_nil]; rfl⟩
  | b :: l, had, c, R => by
    obtain ⟨s, hs, hn, R'⟩ := runs_next (e1 := e1) (e2 := e2) R c
    have et : trail bs e1 e2 (progress bs had, c) (b :: l) = (progress bs (had ++ [b]), placed e1 e2 c s) :: trail bs e1 e2 (progress bs (had ++ [b]), placed e1 e2 c s) l := by
      show (match nextOf bs e1 e2 (progress bs had, c) b with | none => [] | some y => y :: trail bs e1 e2 y l) = _
      rw [hn]
    have es : sheetsOf bs (b :: l) had = s :: sheetsOf bs l (had ++ [b]) := by
      show (match (bookAt bs b)[doneOf had b]? with | none => sheetsOf bs l had | some s => s :: sheetsOf bs l (had ++ [b])) = _
      have e : doneOf had b = had.count b := rfl
      rw [e, hs]
    obtain ⟨h1, h2, h3⟩ := trail_is (l := l) (c := placed e1 e2 c s) R'
    rw [et, es]
    refine ⟨?_, ?_, ?_⟩
    · rw [List.map_cons, h1]
      rfl
    · rw [List.length_cons, h2, List.length_cons]
    · unfold lastOf at h3 ⊢
      rw [List.getLastD_cons, h3, List.append_assoc]
      rfl
theorem progress_nil (bs : List Book) : progress bs [] = zeros bs.length := by
  unfold progress zeros doneOf
  rw [List.eq_replicate_iff]
  refine ⟨by rw [List.length_map, List.length_range], fun x hx => ?_⟩
  obtain ⟨b, _, rfl⟩ := List.mem_map.mp hx
  rfl
/-- each standing of an order is one that can be reached -/
theorem trail_fit (u1 : Up e1) : ∀ {l : List Nat} {x : Stand}, Fit bs e1 x → (∀ b ∈ l, b < bs.length) → ∀ y ∈ trail bs e1 e2 x l, Fit bs e1 y
  | [], x, _, _, y, hy => nomatch hy
  | b :: l, x, F, hl, y, hy => by
    have et : trail bs e1 e2 x (b :: l) = (match nextOf bs e1 e2 x b with | none => [] | some y => y :: trail bs e1 e2 y l) := rfl
    rw [et] at hy
    cases hn : nextOf bs e1 e2 x b with
    | none => rw [hn] at hy; exact nomatch hy
    | some z =>
      rw [hn] at hy
      have Fz := F.next u1 (hl b (List.mem_cons_self ..)) hn
      rcases List.mem_cons.mp hy with rfl | hy
      · exact Fz
      · exact trail_fit u1 Fz (fun i hi => hl i (List.mem_cons_of_mem _ hi)) y hy
end
/-! ### how many whole orders -/
def choose : Nat → Nat → Nat
  | _, 0 => 1
  | 0, _ + 1 => 0
  | n + 1, k + 1 => choose n k + choose n (k + 1)
theorem choose_absorb : ∀ (n k : Nat), (k + 1) * choose (n + 1) (k + 1) = (n + 1) * choose n k
  | 0, 0 => rfl
  | 0, k + 1 => by simp [choose]
  | n + 1, 0 => by
    have h := choose_absorb n 0
    have e1 : choose (n + 2) 1 = choose (n + 1) 0 + choose (n + 1) 1 := rfl
    have e2 : choose (n + 1) 0 = 1 := by cases n <;> rfl
    have e3 : choose n 0 = 1 := by cases n <;> rfl
    rw [e3] at h
    show (0 + 1) * choose (n + 2) 1 = (n + 2) * choose (n + 1) 0
    rw [e1, e2]
    have h' : choose (n + 1) 1 = n + 1 := by simpa using h
    rw [h']; omega
  | n + 1, k + 1 => by
    have h1 := choose_absorb n k
    have h2 := choose_absorb n (k + 1)
    have e1 : choose (n + 2) (k + 2) = choose (n + 1) (k + 1) + choose (n + 1) (k + 2) := rfl
    have e2 : choose (n + 1) (k + 1) = choose n k + choose n (k + 1) := rfl
    show (k + 1 + 1) * choose (n + 2) (k + 2) = (n + 1 + 1) * choose (n + 1) (k + 1)
    rw [e1, Nat.mul_add, h2]
    have h3 : (k + 1 + 1) * choose (n + 1) (k + 1) = (n + 1) * choose n k + choose (n + 1) (k + 1) := by
      rw [Nat.add_mul (k + 1) 1, h1, Nat.one_mul]
    rw [h3, Nat.add_mul (n + 1) 1, Nat.one_mul]
    have h4 : (n + 1) * choose (n + 1) (k + 1) = (n + 1) * choose n k + (n + 1) * choose n (k + 1) := by rw [e2, Nat.mul_add]
    omega
theorem choose_zero (n : Nat) : choose n 0 = 1 := by cases n <;> rfl
theorem choose_fact : ∀ (k n : Nat), choose (n + k) k * factorial k * factorial n = factorial (n + k)
  | 0, n => by
    rw [choose_zero]
    show 1 * 1 * factorial n = factorial n
    omega
  | k + 1, n => by
    have ih := choose_fact k n
    have ab := choose_absorb (n + k) k
    have e : factorial (k + 1) = (k + 1) * factorial k := rfl
    have e2 : factorial (n + (k + 1)) = (n + k + 1) * factorial (n + k) := rfl
    rw [e, e2, ← ih]
    show choose (n + k + 1) (k + 1) * ((k + 1) * factorial k) * factorial n = _
    rw [← Nat.mul_assoc (choose (n + k + 1) (k + 1)), Nat.mul_comm (choose (n + k + 1) (k + 1)) (k + 1), ab]
    simp only [Nat.mul_assoc]
theorem factorial_pos : ∀ n, 0 < factorial n
  | 0 => by decide
  | n + 1 => Nat.mul_pos (by omega) (factorial_pos n)
/-- a sheet more: the program's step -/
theorem ways_step (w n k : Nat) : w * choose (n + k) k * (n + k + 1) / (k + 1) = w * choose (n + k + 1) (k + 1) := by
  have ab := choose_absorb (n + k) k
  rw [Nat.mul_assoc, Nat.mul_comm (choose (n + k) k), ← ab, ← Nat.mul_assoc, Nat.mul_comm w (k + 1), Nat.mul_assoc]
  exact Nat.mul_div_cancel_left _ (by omega)
/-- the ways behind some books -/
def ways : List Book → Nat × Nat → Nat × Nat
  | [], x => x
  | b :: l, x => ways l (x.1 * choose (x.2 + b.length) b.length, x.2 + b.length)
def prodFact (l : List Book) (a : Nat) : Nat := (l.map fun b => factorial b.length).foldl (fun m x => m * x) a
theorem prodFact_cons (b : Book) (l : List Book) (a : Nat) : prodFact (b :: l) a = prodFact l (a * factorial b.length) := rfl
theorem ways_is : ∀ (l : List Book) (w n a : Nat), w * a = factorial n → (ways l (w, n)).2 = n + sheetsIn l ∧ (ways l (w, n)).1 * prodFact l a = factorial (n + sheetsIn l)
  | [], w, n, a, h => ⟨rfl, h⟩
  | b :: l, w, n, a, h => by
    have hs : sheetsIn (b :: l) = b.length + sheetsIn l := rfl
    have q : w * choose (n + b.length) b.length * (a * factorial b.length) = factorial (n + b.length) := by
      rw [← choose_fact b.length n, ← h]
      simp only [Nat.mul_assoc, Nat.mul_comm, Nat.mul_left_comm]
    obtain ⟨h1, h2⟩ := ways_is l (w * choose (n + b.length) b.length) (n + b.length) (a * factorial b.length) q
    rw [prodFact_cons, hs]
    show (ways l (w * choose (n + b.length) b.length, n + b.length)).2 = _ ∧ (ways l (w * choose (n + b.length) b.length, n + b.length)).1 * _ = _
    rw [← Nat.add_assoc]
    exact ⟨h1, h2⟩
theorem prodFact_pos : ∀ (l : List Book) (a : Nat), 0 < a → 0 < prodFact l a
  | [], _, h => h
  | b :: l, a, h => prodFact_pos l _ (Nat.mul_pos h (factorial_pos _))
theorem ways_orders (bs : List Book) : (ways bs (1, 0)).1 = ordersOf bs := by
  obtain ⟨_, h⟩ := ways_is bs 1 0 1 rfl
  rw [Nat.zero_add] at h
  unfold ordersOf
  rw [← h]
  exact (Nat.mul_div_cancel _ (prodFact_pos bs 1 (by decide))).symm
end Rm

/-! An order's standings, one after the other. Core Lean alone. -/
namespace Rm
open Vbceah
section
variable {bs : List Book} {e1 e2 : Breaks}
theorem trail_cons (x : Stand) (b : Nat) (l : List Nat) : trail bs e1 e2 x (b :: l) = match nextOf bs e1 e2 x b with
    | none => []
    | some y => y :: trail bs e1 e2 y l := rfl
theorem trail_snoc : ∀ {l : List Nat} {x : Stand} {b : Nat} {y : Stand}, (trail bs e1 e2 x l).length = l.length → nextOf bs e1 e2 (lastOf x (trail bs e1 e2 x l)) b = some y →
    trail bs e1 e2 x (l ++ [b]) = trail bs e1 e2 x l ++ [y]
  | [], x, b, y, _, h => by
    have h' : nextOf bs e1 e2 x b = some y := h
    show trail bs e1 e2 x [b] = [y]
    rw [trail_cons, h']
    rfl
  | a :: l, x, b, y, hl, h => by
    rw [trail_cons] at hl h
    rw [List.cons_append, trail_cons, trail_cons]
    cases hn : nextOf bs e1 e2 x a with
    | none => rw [hn] at hl; simp at hl
    | some z =>
      rw [hn] at hl h
      dsimp only at hl h ⊢
      have hl' : (trail bs e1 e2 z l).length = l.length := by simpa using hl
      unfold lastOf at h
      rw [List.getLastD_cons] at h
      rw [trail_snoc hl' h]
      rfl
theorem runs_take {had order : List Nat} (R : Runs bs had order) (i : Nat) : Runs bs had (order.take i) := by
  refine ⟨fun b hb => R.1 b (List.mem_of_mem_take hb), fun b hb => Nat.le_trans ?_ (R.2 b hb)⟩
  rw [List.count_append, List.count_append]
  exact Nat.add_le_add_left ((List.take_sublist i order).count_le b) _
theorem first0_eq (bs : List Book) : first0 bs = (progress bs [], ⟨0, 0⟩) := by unfold first0; rw [progress_nil]
/-- where the first i sheets of an order lead -/
def lead0 (bs : List Book) (e1 e2 : Breaks) (order : List Nat) : Stand := lastOf (first0 bs) (trail bs e1 e2 (first0 bs) order)
theorem lead0_eq {order : List Nat} (R : Runs bs [] order) : lead0 bs e1 e2 order = (progress bs order, clockOf e1 e2 (sheetsOf bs order [])) := by
  unfold lead0
  rw [first0_eq, (trail_is (e1 := e1) (e2 := e2) (c := ⟨0, 0⟩) R).2.2]
  rfl
theorem trail_len {order : List Nat} (R : Runs bs [] order) : (trail bs e1 e2 (first0 bs) order).length = order.length := by
  rw [first0_eq]
  exact (trail_is (e1 := e1) (e2 := e2) (c := ⟨0, 0⟩) R).2.1
theorem trail_clocks {order : List Nat} (R : Runs bs [] order) : (trail bs e1 e2 (first0 bs) order).map Prod.snd = clocks e1 e2 ⟨0, 0⟩ (sheetsOf bs order []) := by
  rw [first0_eq]
  exact (trail_is (e1 := e1) (e2 := e2) (c := ⟨0, 0⟩) R).1
theorem last_mem {x : Stand} {l : List Stand} : lastOf x l = x ∨ lastOf x l ∈ l := by
  unfold lastOf
  cases l with
  | nil => exact .inl rfl
  | cons a l =>
    right
    rw [List.getLastD_cons]
    exact List.getLastD_mem_cons
theorem lead0_fit (u1 : Up e1) {order : List Nat} (R : Runs bs [] order) : Fit bs e1 (lead0 bs e1 e2 order) := by
  rcases last_mem (x := first0 bs) (l := trail bs e1 e2 (first0 bs) order) with h | h
  · unfold lead0
    rw [h]
    exact fit_first
  · exact trail_fit u1 fit_first R.1 _ h
theorem along_step (u1 : Up e1) {order : List Nat} {i b : Nat} (R : Runs bs [] order) (h : order[i]? = some b) :
    b < bs.length ∧ ∃ y, nextOf bs e1 e2 (lead0 bs e1 e2 (order.take i)) b = some y ∧ trail bs e1 e2 (first0 bs) (order.take (i + 1)) = trail bs e1 e2 (first0 bs) (order.take i) ++ [y] ∧ lead0 bs e1 e2 (order.take (i + 1)) = y := by
  have hb : b < bs.length := R.1 b (List.mem_of_getElem? h)
  have Ri := runs_take R i
  have et : order.take (i + 1) = order.take i ++ [b] := by rw [List.take_add_one, h]; rfl
  have R1 := runs_take R (i + 1)
  rw [et] at R1
  have Rb : Runs bs (order.take i) [b] := ⟨fun j hj => by rw [List.mem_singleton.mp hj]; exact hb, fun j hj => by have := R1.2 j hj; rwa [List.nil_append] at this⟩
  obtain ⟨s, hs, hn, _⟩ := runs_next (e1 := e1) (e2 := e2) Rb (clockOf e1 e2 (sheetsOf bs (order.take i) []))
  rw [← lead0_eq Ri] at hn
  have ts := trail_snoc (trail_len Ri) hn
  rw [← et] at ts hn
  refine ⟨hb, _, hn, ts, ?_⟩
  unfold lead0 lastOf
  rw [ts, List.getLastD_concat]
end
end Rm

/-! The states that calls can reach. Core Lean alone. -/
namespace Rm
open Vbceah VbceCore
/-- a state that calls can reach -/
structure Good (s : State) : Prop where
  four : s.books.length ≤ 4
  twelve : sheetsIn s.books ≤ 12
  six : ∀ b ∈ s.books, 1 ≤ b.length ∧ b.length ≤ 6
  e1 : behindOther s.empty1 = true
  e2 : behindOther s.empty2 = true
  runs : Runs s.books [] s.order
theorem Good.u1 {s : State} (g : Good s) : Up s.empty1 := up_of g.e1
theorem Good.u2 {s : State} (g : Good s) : Up s.empty2 := up_of g.e2
theorem good_start : Good start := ⟨by decide, by decide, fun _ h => (nomatch h), rfl, rfl, ⟨fun _ h => (nomatch h), fun _ h => (nomatch h)⟩⟩
/-! ### how many are in an order -/
theorem count_sum : ∀ {order : List Nat} {n : Nat}, (∀ b ∈ order, b < n) → ((List.range n).map fun b => order.count b).sum = order.length
  | [], n, _ => by
    have : ((List.range n).map fun b => ([] : List Nat).count b) = (List.range n).map fun _ => 0 := List.map_congr_left fun b _ => rfl
    rw [this]
    clear this
    induction n with
    | zero => rfl
    | succ k ih => rw [List.range_succ, List.map_append, List.sum_append, ih (fun _ h => nomatch h)]; rfl
  | a :: order, n, h => by
    have i := count_sum (order := order) (n := n) fun b hb => h b (List.mem_cons_of_mem _ hb)
    have ha := h a (List.mem_cons_self ..)
    rw [sum_one (f := fun b => order.count b) (g := fun b => (a :: order).count b) (b := a) (k := 1) ha (fun j _ hj => by rw [List.count_cons_of_ne (fun z => hj z.symm)]) (by rw [List.count_cons_self]), i, List.length_cons]
theorem runs_len {bs : List Book} {order : List Nat} (R : Runs bs [] order) : order.length ≤ sheetsIn bs := by
  rw [← count_sum R.1, sheetsIn_range]
  exact sum_le_range fun b hb => by have := R.2 b hb; rwa [List.nil_append] at this
theorem whole_is {bs : List Book} {order : List Nat} (R : Runs bs [] order) : isWhole bs order = (order.length == sheetsIn bs) := by
  have h2 : ∀ b, b < bs.length → order.count b ≤ (bookAt bs b).length := fun b hb => by have := R.2 b hb; rwa [List.nil_append] at this
  have ho : (order.all fun b => decide (b < bs.length)) = true := List.all_eq_true.mpr fun b hb => decide_eq_true (R.1 b hb)
  unfold isWhole
  rw [ho, Bool.and_true]
  by_cases c : order.length = sheetsIn bs
  · rw [c, beq_self_eq_true, List.all_eq_true]
    intro b hb
    have hb' := List.mem_range.mp hb
    have le := h2 b hb'
    by_cases e : order.count b = (bookAt bs b).length
    · show (order.count b == _) = true
      rw [e]
      exact beq_self_eq_true _
    · exfalso
      have lt : ((List.range bs.length).map fun b => order.count b).sum < ((List.range bs.length).map fun b => (bookAt bs b).length).sum := by
        have step : ∀ n, n ≤ bs.length → (b < n → ((List.range n).map fun b => order.count b).sum < ((List.range n).map fun b => (bookAt bs b).length).sum) := by
          intro n
          induction n with
          | zero => intro _ h; omega
          | succ k ih =>
            intro hk hbk
            rw [List.range_succ, List.map_append, List.map_append, List.sum_append, List.sum_append]
            simp only [List.map_cons, List.map_nil, List.sum_cons, List.sum_nil]
            have hk2 := h2 k (by omega)
            by_cases c2 : b = k
            · subst c2
              have := sum_le_range (n := b) (f := fun b => order.count b) (g := fun b => (bookAt bs b).length) fun j hj => h2 j (by omega)
              omega
            · have := ih (by omega) (by omega)
              omega
        exact step bs.length (Nat.le_refl _) hb'
      rw [count_sum R.1, ← sheetsIn_range] at lt
      omega
  · rw [beq_eq_false_iff_ne.mpr c, Bool.eq_false_iff]
    intro h
    apply c
    rw [List.all_eq_true] at h
    rw [← count_sum R.1, sheetsIn_range]
    congr 1
    exact List.map_congr_left fun b hb => eq_of_beq (h b hb)
/-! ### lists of numbers by twos -/
theorem between_iff {n lo hi : Int} : isBetween n lo hi = true ↔ lo ≤ n ∧ n ≤ hi := by
  unfold isBetween
  rw [Bool.and_eq_true, decide_eq_true_eq, decide_eq_true_eq]
def flat2 (r : List (Nat × Nat)) : List Int := r.flatMap fun x => [(x.1 : Int), (x.2 : Int)]
theorem twos_some : ∀ {l : List Int} {r : List (Nat × Nat)}, twos l = some r → (∀ n ∈ l, 0 ≤ n) → l = flat2 r ∧ l.length = 2 * r.length
  | [], r, h, _ => by cases h; exact ⟨rfl, rfl⟩
  | [_], r, h, _ => by cases h
  | a :: b :: l, r, h, hn => by
    have h' : (twos l).map (fun r => (a.toNat, b.toNat) :: r) = some r := h
    cases e : twos l with
    | none => rw [e] at h'; cases h'
    | some q =>
      rw [e] at h'
      have er : (a.toNat, b.toNat) :: q = r := Option.some.inj h'
      subst er
      obtain ⟨i1, i2⟩ := twos_some e fun n hn' => hn n (List.mem_cons_of_mem _ (List.mem_cons_of_mem _ hn'))
      have ha := hn a (List.mem_cons_self ..)
      have hb := hn b (List.mem_cons_of_mem _ (List.mem_cons_self ..))
      refine ⟨?_, by simp only [List.length_cons, i2]; omega⟩
      show a :: b :: l = ((a.toNat : Nat) : Int) :: ((b.toNat : Nat) : Int) :: flat2 q
      rw [← i1, Int.toNat_of_nonneg ha, Int.toNat_of_nonneg hb]
theorem twos_even : ∀ {l : List Int}, l.length % 2 = 0 → ∃ r, twos l = some r
  | [], _ => ⟨[], rfl⟩
  | [_], h => by simp at h
  | a :: b :: l, h => by
    obtain ⟨r, e⟩ := twos_even (l := l) (by simp only [List.length_cons] at h; omega)
    exact ⟨(a.toNat, b.toNat) :: r, by show (twos l).map _ = _; rw [e]; rfl⟩
theorem twos_odd : ∀ {l : List Int}, l.length % 2 = 1 → twos l = none
  | [], h => by simp at h
  | [_], _ => rfl
  | a :: b :: l, h => by
    show (twos l).map _ = none
    rw [twos_odd (by simp only [List.length_cons] at h; omega)]
    rfl
/-! ### every call leads from a good state to a good state -/
theorem fits_runs {bs : List Book} {l : List Nat} (h1 : ∀ b ∈ l, b < bs.length) (h2 : fits bs l = true) : Runs bs [] l := by
  refine ⟨h1, fun b hb => ?_⟩
  rw [List.nil_append]
  unfold fits at h2
  rw [List.all_eq_true] at h2
  exact of_decide_eq_true (h2 b (List.mem_range.mpr hb))
theorem bookAt_append {bs : List Book} {b : Book} {i : Nat} (h : i < bs.length) : bookAt (bs ++ [b]) i = bookAt bs i := by
  unfold bookAt
  rw [List.getD_eq_getElem?_getD, List.getD_eq_getElem?_getD, List.getElem?_append_left h]
theorem runs_more {bs : List Book} {b : Book} {l : List Nat} (R : Runs bs [] l) : Runs (bs ++ [b]) [] l := by
  refine ⟨fun i hi => by rw [List.length_append]; have := R.1 i hi; omega, fun i hi => ?_⟩
  rw [List.nil_append]
  by_cases c : i < bs.length
  · rw [bookAt_append c]
    have := R.2 i c
    rwa [List.nil_append] at this
  · have : l.count i = 0 := List.count_eq_zero.mpr fun hm => c (R.1 i hm)
    omega
theorem breaks_ok {l : List Int} {e : Breaks} (h : breaksTold l = some e) : behindOther e = true := by
  unfold breaksTold at h
  split at h
  · cases q : twos l with
    | none => rw [q] at h; cases h
    | some r =>
      rw [q] at h
      have h' : (if behindOther r = true then some r else none) = some e := h
      split at h'
      · rename_i hb
        rw [← Option.some.inj h']
        exact hb
      · cases h'
  · cases h
theorem onFull_fst {s : State} {f : State × Answer} (h : f.1 = s) : (onFull s f).1 = s := by
  unfold onFull no
  split
  · exact h
  · rfl
theorem isBook_lt {s : State} {b : Int} (h : isBook s b = true) : 0 ≤ b ∧ b.toNat < s.books.length := by
  unfold isBook at h
  have := between_iff.mp h
  omega
theorem sheets_ok {l : List Int} {b : Book} (h : sheetsTold l = some b) : 1 ≤ b.length ∧ b.length ≤ 6 := by
  unfold sheetsTold at h
  split at h
  · rename_i c
    cases q : twos l with
    | none => rw [q] at h; cases h
    | some r =>
      rw [q] at h
      have h' : r.map (fun x => (⟨x.1, x.2⟩ : Sheet)) = b := Option.some.inj h
      have nn : ∀ n ∈ l, 0 ≤ n := fun n hn => (between_iff.mp (List.all_eq_true.mp c.1 n hn)).1
      have hl := (twos_some q nn).2
      rw [← h', List.length_map]
      have c2 := c.2
      omega
  · cases h
theorem good_act {s : State} (g : Good s) {c : Call} (hr : inRange s c = true) : Good (act s c).1 := by
  cases c with
  | book l =>
    show Good (if BOOKS ≤ s.books.length ∨ SHEETS < sheetsIn s.books + ((sheetsTold l).getD []).length then no s 3 else _).1
    split
    · exact g
    · rename_i h
      have hs : (sheetsTold l).isSome = true := hr
      cases q : sheetsTold l with
      | none => rw [q] at hs; cases hs
      | some b =>
        rw [q] at h
        have h' : ¬ (4 ≤ s.books.length ∨ 12 < sheetsIn s.books + b.length) := h
        show Good { s with books := s.books ++ [b] }
        refine ⟨?_, ?_, ?_, g.e1, g.e2, runs_more g.runs⟩
        · show (s.books ++ [b]).length ≤ 4
          rw [List.length_append]
          show _ + 1 ≤ 4
          omega
        · show sheetsIn (s.books ++ [b]) ≤ 12
          unfold sheetsIn
          rw [List.map_append, List.sum_append]
          show sheetsIn s.books + (b.length + 0) ≤ 12
          omega
        · intro x hx
          rcases List.mem_append.mp hx with hx | hx
          · exact g.six x hx
          · rw [List.mem_singleton.mp hx]
            exact sheets_ok q
  | empty d l =>
    have hs : (isBetween d 1 2 && (breaksTold l).isSome) = true := hr
    rw [Bool.and_eq_true] at hs
    cases q : breaksTold l with
    | none => rw [q] at hs; cases hs.2
    | some e =>
      show Good (if d = 1 then { s with empty1 := (breaksTold l).getD [] } else { s with empty2 := (breaksTold l).getD [] })
      rw [q]
      split
      · exact ⟨g.four, g.twelve, g.six, breaks_ok q, g.e2, g.runs⟩
      · exact ⟨g.four, g.twelve, g.six, g.e1, breaks_ok q, g.runs⟩
  | order l =>
    have hs : (decide (l.length ≤ SHEETS) && l.all (isBook s)) = true := hr
    rw [Bool.and_eq_true] at hs
    show Good (if fits s.books (l.map Int.toNat) = false then no s 4 else _).1
    split
    · exact g
    · rename_i h
      have h' : fits s.books (l.map Int.toNat) = true := by simpa using h
      refine ⟨g.four, g.twelve, g.six, g.e1, g.e2, fits_runs (fun b hb => ?_) h'⟩
      obtain ⟨z, hz, rfl⟩ := List.mem_map.mp hb
      exact (isBook_lt (List.all_eq_true.mp hs.2 z hz)).2
  | clear => exact good_start
  | rule => rw [show (act s .rule).1 = s from onFull_fst rfl]; exact g
  | critical =>
    have : (act s .critical).1 = s := onFull_fst (by split <;> rfl)
    rw [this]; exact g
  | blocks l => rw [show (act s (.blocks l)).1 = s from onFull_fst rfl]; exact g
  | now => exact g
  | ends => exact g
  | times => exact g
  | waits => exact g
  | least => exact g
  | best => exact g
  | left => exact g
  | next => exact g
  | block b => exact g
  | judge t l => exact g
  | more t l => exact g
  | swap i => exact g
  | books => exact g
theorem good_step {s : State} (g : Good s) (c : List (List Int)) : Good (step s c).1 := by
  unfold step
  split
  · exact g
  · rename_i d _
    split
    · exact g
    · rename_i h
      exact good_act g (by simpa using h)
end Rm

/-! What the calls that change take and refuse. Core Lean alone. -/
namespace Rm
open Vbceah VbceCore
def inAll (l : List Int) (lo hi : Int) : Bool := l.all fun n => isBetween n lo hi
theorem step_book (s : State) (l : List Int) : step s [[0], l] = if (sheetsTold l).isSome = false then (s, [-1]) else act s (.book l) := rfl
theorem book_bad {s : State} {l : List Int} (h : ¬ (2 ≤ l.length ∧ l.length ≤ 12) ∨ l.length % 2 = 1 ∨ inAll l 0 1000 = false) : step s [[0], l] = (s, [-1]) := by
  have e : sheetsTold l = none := by
    unfold sheetsTold
    rcases h with h | h | h
    · rw [if_neg (fun z => h z.2)]
    · rw [twos_odd h]
      split <;> rfl
    · rw [if_neg (fun z => by
        have := z.1
        unfold inAll at h
        rw [h] at this
        cases this)]
  rw [step_book, e]
  rfl
theorem book_good {l : List Int} (h1 : 2 ≤ l.length ∧ l.length ≤ 12) (h2 : l.length % 2 = 0) (h3 : inAll l 0 1000 = true) :
    ∃ r, twos l = some r ∧ l = flat2 r ∧ l.length = 2 * r.length ∧ sheetsTold l = some (r.map fun x => ⟨x.1, x.2⟩) := by
  obtain ⟨r, hr⟩ := twos_even h2
  have nn : ∀ n ∈ l, 0 ≤ n := fun n hn => (between_iff.mp (List.all_eq_true.mp h3 n hn)).1
  obtain ⟨e1, e2⟩ := twos_some hr nn
  refine ⟨r, hr, e1, e2, ?_⟩
  unfold sheetsTold
  rw [if_pos ⟨h3, h1⟩, hr]
  rfl
theorem book_full {s : State} {l : List Int} {b : Book} (h : sheetsTold l = some b) (c : s.books.length = 4 ∨ 12 < sheetsIn s.books + b.length) (h4 : s.books.length ≤ 4) : step s [[0], l] = (s, [-3]) := by
  rw [step_book, h]
  show (if 4 ≤ s.books.length ∨ 12 < sheetsIn s.books + ((sheetsTold l).getD []).length then no s 3 else _) = _
  rw [h]
  have c' : 4 ≤ s.books.length ∨ 12 < sheetsIn s.books + b.length := c.imp (fun z => by omega) id
  show (if 4 ≤ s.books.length ∨ 12 < sheetsIn s.books + b.length then no s 3 else _) = _
  rw [if_pos c']
  rfl
theorem book_new {s : State} {l : List Int} {b : Book} (h : sheetsTold l = some b) (c : ¬ (s.books.length = 4 ∨ 12 < sheetsIn s.books + b.length)) (h4 : s.books.length ≤ 4) : step s [[0], l] = ({ s with books := s.books ++ [b] }, [(s.books.length : Int)]) := by
  rw [step_book, h]
  show (if 4 ≤ s.books.length ∨ 12 < sheetsIn s.books + ((sheetsTold l).getD []).length then no s 3 else ({ s with books := s.books ++ [(sheetsTold l).getD []] }, [(s.books.length : Int)])) = _
  rw [h]
  have c' : ¬ (4 ≤ s.books.length ∨ 12 < sheetsIn s.books + b.length) := fun z => c (z.imp (fun q => by omega) id)
  show (if 4 ≤ s.books.length ∨ 12 < sheetsIn s.books + b.length then no s 3 else _) = _
  rw [if_neg c']
  rfl
/-! ### empty times -/
/-- each stretch begins no earlier than this moment, or than the one before ends -/
def chk : Nat → Breaks → Bool
  | _, [] => true
  | e, x :: l => decide (e ≤ x.1 ∧ x.1 < x.2) && chk x.2 l
theorem chk_cons : ∀ (x : Nat × Nat) (l : Breaks), behindOther (x :: l) = (decide (x.1 < x.2) && chk x.2 l)
  | x, [] => by simp [behindOther, chk]
  | x, y :: l => by
    have e : behindOther (x :: y :: l) = (decide (x.1 < x.2 ∧ x.2 ≤ y.1) && behindOther (y :: l)) := rfl
    rw [e, chk_cons y l]
    show _ = (decide (x.1 < x.2) && (decide (x.2 ≤ y.1 ∧ y.1 < y.2) && chk y.2 l))
    by_cases c1 : x.1 < x.2 <;> by_cases c2 : x.2 ≤ y.1 <;> by_cases c3 : y.1 < y.2 <;> simp [c1, c2, c3]
theorem chk_zero (l : Breaks) : behindOther l = chk 0 l := by
  cases l with
  | nil => rfl
  | cons x l =>
    rw [chk_cons]
    show _ = (decide (0 ≤ x.1 ∧ x.1 < x.2) && chk x.2 l)
    have e : decide (0 ≤ x.1 ∧ x.1 < x.2) = decide (x.1 < x.2) := by simp
    rw [e]
theorem breaks_bad {l : List Int} (h : 8 < l.length ∨ l.length % 2 = 1 ∨ inAll l 0 100000 = false) : breaksTold l = none := by
  unfold breaksTold
  rcases h with h | h | h
  · rw [if_neg (fun z => by have : l.length ≤ 8 := z.2; omega)]
  · rw [twos_odd h]
    split <;> rfl
  · rw [if_neg (fun z => by
      have := z.1
      unfold inAll at h
      rw [h] at this
      cases this)]
theorem breaks_good {l : List Int} (h1 : l.length ≤ 8) (h2 : l.length % 2 = 0) (h3 : inAll l 0 100000 = true) :
    ∃ r, l = flat2 r ∧ l.length = 2 * r.length ∧ breaksTold l = if chk 0 r = true then some r else none := by
  obtain ⟨r, hr⟩ := twos_even h2
  have nn : ∀ n ∈ l, 0 ≤ n := fun n hn => (between_iff.mp (List.all_eq_true.mp h3 n hn)).1
  obtain ⟨e1, e2⟩ := twos_some hr nn
  refine ⟨r, e1, e2, ?_⟩
  unfold breaksTold
  rw [if_pos ⟨h3, h1⟩, hr, ← chk_zero]
  rfl
theorem breaks_told {l : List Int} {r : Breaks} (h : breaksTold l = some r) : l = flat2 r ∧ l.length = 2 * r.length := by
  unfold breaksTold at h
  split at h
  · rename_i c
    have nn : ∀ n ∈ l, 0 ≤ n := fun n hn => (between_iff.mp (List.all_eq_true.mp c.1 n hn)).1
    cases q : twos l with
    | none => rw [q] at h; cases h
    | some r' =>
      rw [q] at h
      have h' : (if behindOther r' = true then some r' else none) = some r := h
      split at h'
      · rw [← Option.some.inj h']
        exact twos_some q nn
      · cases h'
  · cases h
theorem step_empty (s : State) (d : Int) (l : List Int) : step s [[1, d], l] = if (isBetween d 1 2 && (breaksTold l).isSome) = false then (s, [-1]) else act s (.empty d l) := rfl
theorem empty_bad {s : State} {d : Int} {l : List Int} (h : (isBetween d 1 2 && (breaksTold l).isSome) = false) : step s [[1, d], l] = (s, [-1]) := by
  rw [step_empty, if_pos h]
theorem empty_new {s : State} {d : Int} {l : List Int} {e : Breaks} (hd : isBetween d 1 2 = true) (h : breaksTold l = some e) : step s [[1, d], l] = (if d = 1 then { s with empty1 := e } else { s with empty2 := e }, [(e.length : Int)]) := by
  rw [step_empty, h, hd]
  show (if d = 1 then { s with empty1 := (breaksTold l).getD [] } else { s with empty2 := (breaksTold l).getD [] }, [(((breaksTold l).getD []).length : Int)]) = _
  rw [h]
  rfl
/-! ### the order -/
theorem step_order (s : State) (l : List Int) : step s [[2], l] = if (decide (l.length ≤ 12) && l.all (isBook s)) = false then (s, [-1]) else act s (.order l) := rfl
theorem isBook_all (s : State) (l : List Int) : l.all (isBook s) = inAll l 0 ((s.books.length : Int) - 1) := rfl
theorem order_bad {s : State} {l : List Int} (h : 12 < l.length ∨ inAll l 0 ((s.books.length : Int) - 1) = false) : step s [[2], l] = (s, [-1]) := by
  rw [step_order, isBook_all]
  rcases h with h | h
  · rw [decide_eq_false (by omega), Bool.false_and, if_pos rfl]
  · rw [h, Bool.and_false, if_pos rfl]
theorem toNat_count {l : List Int} (h : ∀ n ∈ l, 0 ≤ n) (b : Nat) : (l.map Int.toNat).count b = l.count (b : Int) := by
  induction l with
  | nil => rfl
  | cons a l ih =>
    have ha := h a (List.mem_cons_self ..)
    rw [List.map_cons, List.count_cons, List.count_cons, ih fun n hn => h n (List.mem_cons_of_mem _ hn)]
    by_cases c : a = (b : Int)
    · subst c
      simp
    · have c' : ¬ a.toNat = b := fun z => c (by omega)
      simp [c, c']
theorem order_nn {s : State} {l : List Int} (h : inAll l 0 ((s.books.length : Int) - 1) = true) : ∀ n ∈ l, 0 ≤ n ∧ n.toNat < s.books.length := fun n hn => by
  have := between_iff.mp (List.all_eq_true.mp h n hn)
  omega
theorem order_four {s : State} {l : List Int} (h1 : l.length ≤ 12) (h2 : inAll l 0 ((s.books.length : Int) - 1) = true) {b : Nat} (hb : b < s.books.length) (hc : (bookAt s.books b).length < l.count (b : Int)) : step s [[2], l] = (s, [-4]) := by
  rw [step_order, isBook_all, h2, decide_eq_true h1]
  show (if fits s.books (l.map Int.toNat) = false then no s 4 else _) = _
  have e : fits s.books (l.map Int.toNat) = false := by
    rw [Bool.eq_false_iff]
    intro z
    unfold fits doneOf at z
    rw [List.all_eq_true] at z
    have := of_decide_eq_true (z b (List.mem_range.mpr hb))
    rw [toNat_count fun n hn => (order_nn h2 n hn).1] at this
    omega
  rw [if_pos e]
  rfl
theorem order_new {s : State} {l : List Int} (h1 : l.length ≤ 12) (h2 : inAll l 0 ((s.books.length : Int) - 1) = true) (hc : ∀ b, b < s.books.length → l.count (b : Int) ≤ (bookAt s.books b).length) :
    step s [[2], l] = ({ s with order := l.map Int.toNat }, [if isWhole s.books (l.map Int.toNat) = true then 1 else 0]) := by
  rw [step_order, isBook_all, h2, decide_eq_true h1]
  show (if fits s.books (l.map Int.toNat) = false then no s 4 else _) = _
  have e : fits s.books (l.map Int.toNat) = true := by
    unfold fits doneOf
    rw [List.all_eq_true]
    intro b hb
    refine decide_eq_true ?_
    rw [toNat_count fun n hn => (order_nn h2 n hn).1]
    exact hc b (List.mem_range.mp hb)
  rw [if_neg (by rw [e]; decide)]
end Rm

/-! A list of calls, call by call. Core Lean alone. -/
namespace Rm
open Vbceah VbceCore
theorem whole_id (c : List (List Int)) : PyVbceah.whole c = c := by
  unfold PyVbceah.whole
  split <;> rfl
def OneOne (o : Option (Nat × Nat)) : Prop := ∀ a k, o = some (a, k) → a ≤ 1 ∧ k ≤ 1
theorem one_ite {c : Prop} [Decidable c] {x y : Option (Nat × Nat)} (h1 : OneOne x) (h2 : OneOne y) : OneOne (if c then x else y) := by
  by_cases h : c
  · rw [if_pos h]; exact h1
  · rw [if_neg h]; exact h2
theorem one_some {a k : Nat} (h : a ≤ 1 ∧ k ≤ 1) : OneOne (some (a, k)) := fun a' k' e => by
  have e' := Option.some.inj e
  have e1 := congrArg Prod.fst e'
  have e2 := congrArg Prod.snd e'
  dsimp only at e1 e2
  omega
theorem one_none : OneOne none := fun _ _ e => nomatch e
theorem shape_one (n : Int) : OneOne (PyVbceah.shape n) := by
  unfold PyVbceah.shape
  repeat' first
    | exact one_none
    | exact one_some (by decide)
    | apply one_ite
theorem shape_k {n : Int} {a k : Nat} (h : PyVbceah.shape n = some (a, k)) : a ≤ 1 ∧ k ≤ 1 := shape_one n a k h
/-- one call, and what stands behind it -/
theorem parse_turn {f : Nat} {l : List Int} {i : Nat} {raw : List (List (List Int))} (hi : i < l.length) (h : PyFlat.calls PyVbceah.shape f (l.drop i) = some raw) :
    ∃ (n : Int) (a k : Nat) (f' : Nat) (raw' : List (List (List Int))), l[i]? = some n ∧ PyVbceah.shape n = some (a, k) ∧ i + 1 + a ≤ l.length ∧
      ((k = 0 ∧ raw = [n :: (l.drop (i + 1)).take a] :: raw' ∧ PyFlat.calls PyVbceah.shape f' (l.drop (i + 1 + a)) = some raw') ∨
       (k = 1 ∧ ∃ m : Nat, l[i + 1 + a]? = some (m : Int) ∧ i + 2 + a + m ≤ l.length ∧ raw = [n :: (l.drop (i + 1)).take a, (l.drop (i + 2 + a)).take m] :: raw' ∧ PyFlat.calls PyVbceah.shape f' (l.drop (i + 2 + a + m)) = some raw')) := by
  rw [List.drop_eq_getElem_cons hi] at h
  cases f with
  | zero => cases h
  | succ f =>
    have h' : (match PyFlat.call PyVbceah.shape (l[i] :: l.drop (i + 1)) with
      | none => none
      | some (c, t) => match PyFlat.calls PyVbceah.shape f t with
        | none => none
        | some cs => some (c :: cs)) = some raw := h
    cases hc : PyFlat.call PyVbceah.shape (l[i] :: l.drop (i + 1)) with
    | none => rw [hc] at h'; cases h'
    | some ct =>
      obtain ⟨c, t⟩ := ct
      rw [hc] at h'
      dsimp only at h'
      cases hcs : PyFlat.calls PyVbceah.shape f t with
      | none => rw [hcs] at h'; cases h'
      | some cs =>
        rw [hcs] at h'
        have er : c :: cs = raw := Option.some.inj h'
        have hc' : (match PyVbceah.shape l[i] with
          | none => none
          | some (n, k) => if (l.drop (i + 1)).length < n then none else match PyFlat.rows k ((l.drop (i + 1)).drop n) with
            | none => none
            | some (xs, t) => some ((l[i] :: (l.drop (i + 1)).take n) :: xs, t)) = some (c, t) := hc
        cases hs : PyVbceah.shape l[i] with
        | none => rw [hs] at hc'; cases hc'
        | some nk =>
          obtain ⟨a, k⟩ := nk
          rw [hs] at hc'
          dsimp only at hc'
          by_cases hl : (l.drop (i + 1)).length < a
          · rw [if_pos hl] at hc'; cases hc'
          · rw [if_neg hl, List.drop_drop] at hc'
            rw [List.length_drop] at hl
            have sk := shape_k hs
            have ed : i + 1 + a ≤ l.length := by omega
            refine ⟨l[i], a, k, f, cs, List.getElem?_eq_getElem hi, hs, ed, ?_⟩
            by_cases ck : k = 0
            · subst ck
              have e : some ((l[i] :: (l.drop (i + 1)).take a) :: [], l.drop (i + 1 + a)) = some (c, t) := hc'
              have e' := Option.some.inj e
              have e1 := congrArg Prod.fst e'
              have e2 := congrArg Prod.snd e'
              dsimp only at e1 e2
              refine .inl ⟨rfl, ?_, ?_⟩
              · rw [← er, ← e1]
              · rw [e2]; exact hcs
            · have ck1 : k = 1 := by omega
              subst ck1
              have hc2 : (match (match PyFlat.row (l.drop (i + 1 + a)) with
                  | none => none
                  | some (x, s) => match PyFlat.rows 0 s with
                    | none => none
                    | some (xs, t) => some (x :: xs, t)) with
                | none => none
                | some (xs, t) => some ((l[i] :: (l.drop (i + 1)).take a) :: xs, t)) = some (c, t) := hc'
              by_cases hz : i + 1 + a < l.length
              · rw [List.drop_eq_getElem_cons hz] at hc2
                have er2 : PyFlat.row (l[i + 1 + a] :: l.drop (i + 1 + a + 1)) = if 0 ≤ l[i + 1 + a] ∧ l[i + 1 + a].toNat ≤ (l.drop (i + 1 + a + 1)).length then some ((l.drop (i + 1 + a + 1)).take l[i + 1 + a].toNat, (l.drop (i + 1 + a + 1)).drop l[i + 1 + a].toNat) else none := rfl
                rw [er2] at hc2
                by_cases cm : 0 ≤ l[i + 1 + a] ∧ l[i + 1 + a].toNat ≤ (l.drop (i + 1 + a + 1)).length
                · rw [if_pos cm] at hc2
                  have e : some ((l[i] :: (l.drop (i + 1)).take a) :: [(l.drop (i + 1 + a + 1)).take l[i + 1 + a].toNat], (l.drop (i + 1 + a + 1)).drop l[i + 1 + a].toNat) = some (c, t) := hc2
                  have e' := Option.some.inj e
                  have e1 := congrArg Prod.fst e'
                  have e2 := congrArg Prod.snd e'
                  dsimp only at e1 e2
                  rw [List.length_drop] at cm
                  have ei : i + 1 + a + 1 = i + 2 + a := by omega
                  rw [ei] at e1 e2 cm
                  refine .inr ⟨rfl, l[i + 1 + a].toNat, ?_, by omega, ?_, ?_⟩
                  · rw [List.getElem?_eq_getElem hz, Int.toNat_of_nonneg cm.1]
                  · rw [← er, ← e1]
                  · rw [List.drop_drop] at e2
                    rw [e2]
                    exact hcs
                · rw [if_neg cm] at hc2; cases hc2
              · rw [List.drop_eq_nil_of_le (by omega)] at hc2
                cases hc2
/-- what's asked of a call -/
theorem asked_list {r0 r1 : List Int} (h : VbceahNeutral.asked1 [r0, r1] = true) : r1.length ≤ 30 := by
  unfold VbceahNeutral.asked1 at h
  split at h
  all_goals first
    | (rename_i e; cases e)
    | skip
  all_goals first
    | (rename_i e
       have e2 := congrArg (fun l : List (List Int) => l.getD 1 []) e
       simp at e2)
    | skip
  all_goals simp_all
end Rm

/-! How long an answer is. Core Lean alone. -/
namespace Rm
open Vbceah VbceCore
theorem ints_length (l : List Nat) : (VbceCore.ints l).length = l.length := List.length_map _
theorem row_length (l : List Nat) : (listRow l).length = l.length + 1 := by unfold listRow; rw [List.length_cons, ints_length]
theorem clocks_length (e1 e2 : Breaks) : ∀ (l : List Sheet) (c : Clock), (clocks e1 e2 c l).length = l.length
  | [], _ => rfl
  | s :: l, c => by
    show (clocks e1 e2 (placed e1 e2 c s) l).length + 1 = l.length + 1
    rw [clocks_length e1 e2 l]
theorem sheetsOf_length (bs : List Book) : ∀ (l had : List Nat), (sheetsOf bs l had).length ≤ l.length
  | [], _ => Nat.le_refl _
  | b :: l, had => by
    unfold sheetsOf
    split
    · have := sheetsOf_length bs l had
      rw [List.length_cons]
      omega
    · have := sheetsOf_length bs l (had ++ [b])
      rw [List.length_cons, List.length_cons]
      omega
theorem bestFrom_length {bs : List Book} {e1 e2 : Breaks} (goal : Nat) : ∀ (n : Nat) (p : List Nat) (c : Clock), (bestFrom bs e1 e2 goal n p c).length ≤ n
  | 0, _, _ => Nat.le_refl _
  | n + 1, p, c => by
    rw [bestFrom_succ goal n (p, c)]
    split
    · exact Nat.zero_le _
    · split
      · exact Nat.zero_le _
      · rename_i y _
        have := bestFrom_length (bs := bs) (e1 := e1) (e2 := e2) goal n y.1 y.2
        rw [List.length_cons]
        omega
theorem insert_length {α : Type} (f : α → α → Bool) (x : α) : ∀ l : List α, (insertBy f x l).length = l.length + 1
  | [] => rfl
  | y :: l => by
    unfold insertBy
    split
    · rfl
    · rw [List.length_cons, insert_length f x l, List.length_cons]
theorem sort_length {α : Type} (f : α → α → Bool) : ∀ (l a : List α), (l.foldl (fun a x => insertBy f x a) a).length = a.length + l.length
  | [], a => rfl
  | x :: l, a => by
    rw [List.foldl_cons, sort_length f l, insert_length, List.length_cons]
    omega
theorem eraseDups_length {l : List Int} : l.eraseDups.length ≤ l.length := by
  have h : ∀ (n : Nat) (l : List Int), l.length ≤ n → l.eraseDups.length ≤ l.length := by
    intro n
    induction n with
    | zero =>
      intro l hl
      have : l = [] := List.eq_nil_of_length_eq_zero (by omega)
      subst this
      simp
    | succ n ih =>
      intro l hl
      cases l with
      | nil => simp
      | cons a l =>
        rw [List.eraseDups_cons, List.length_cons, List.length_cons]
        have f := List.length_filter_le (fun b => !b == a) l
        rw [List.length_cons] at hl
        have := ih (l.filter fun b => !b == a) (by omega)
        omega
  exact h l.length l (Nat.le_refl _)
theorem flat_length (bs : List Book) : (bs.flatMap fun b => (b.length : Int) :: VbceCore.ints (b.flatMap fun x => [x.first, x.second])).length = bs.length + 2 * sheetsIn bs := by
  induction bs with
  | nil => rfl
  | cons b bs ih =>
    rw [List.flatMap_cons, List.length_append, ih, List.length_cons, ints_length]
    have e : (b.flatMap fun x : Sheet => [x.first, x.second]).length = 2 * b.length := by
      clear ih
      induction b with
      | nil => rfl
      | cons x b ih =>
        rw [List.flatMap_cons, List.length_append, ih, List.length_cons]
        show 2 + 2 * b.length = 2 * (b.length + 1)
        omega
    have e2 : sheetsIn (b :: bs) = b.length + sheetsIn bs := rfl
    rw [e, e2, List.length_cons]
    omega
theorem pairs_length (l : List Clock) : (l.flatMap fun c => [c.one, c.two]).length = 2 * l.length := by
  induction l with
  | nil => rfl
  | cons x l ih =>
    rw [List.flatMap_cons, List.length_append, ih, List.length_cons]
    show 2 + 2 * l.length = 2 * (l.length + 1)
    omega
theorem act_length {s : State} (g : Good s) {c : Call} (hr : inRange s c = true) : (act s c).2.length ≤ 100 := by
  have ho := runs_len g.runs
  have h12 := g.twelve
  have h4 := g.four
  have hs := sheetsOf_length s.books s.order []
  cases c with
  | book l =>
    show (if BOOKS ≤ s.books.length ∨ SHEETS < sheetsIn s.books + ((sheetsTold l).getD []).length then no s 3 else _).2.length ≤ 100
    split <;> exact Nat.le_trans (Nat.le_refl 1) (by omega)
  | empty d l => exact Nat.le_trans (Nat.le_refl 1) (by omega)
  | order l =>
    show (if fits s.books (l.map Int.toNat) = false then no s 4 else _).2.length ≤ 100
    split <;> exact Nat.le_trans (Nat.le_refl 1) (by omega)
  | now => show (listRow s.order).length ≤ 100; rw [row_length]; omega
  | ends => exact Nat.le_trans (Nat.le_refl 3) (by omega)
  | times =>
    show (((clocks s.empty1 s.empty2 ⟨0, 0⟩ (sheetsOf s.books s.order [])).length : Int) :: VbceCore.ints ((clocks s.empty1 s.empty2 ⟨0, 0⟩ (sheetsOf s.books s.order [])).flatMap fun c => [c.one, c.two])).length ≤ 100
    rw [List.length_cons, ints_length, pairs_length, clocks_length]
    omega
  | waits =>
    show (listRow _).length ≤ 100
    rw [row_length, List.length_map, List.length_zip, clocks_length]
    omega
  | least => exact Nat.le_trans (Nat.le_refl 2) (by omega)
  | best =>
    show (listRow (bestFrom _ _ _ _ _ _ _)).length ≤ 100
    rw [row_length]
    have := bestFrom_length (bs := s.books) (e1 := s.empty1) (e2 := s.empty2) (Vbceah.least s.books s.empty1 s.empty2) (sheetsIn s.books) (zeros s.books.length) ⟨0, 0⟩
    omega
  | left => exact Nat.le_trans (Nat.le_refl 1) (by omega)
  | next =>
    show ((s.books.length : Int) :: (List.range s.books.length).map _).length ≤ 100
    rw [List.length_cons, List.length_map, List.length_range]
    omega
  | rule =>
    show (onFull s _).2.length ≤ 100
    unfold onFull
    split
    · show (listRow (ruled s.books) ++ [_]).length ≤ 100
      rw [List.length_append, row_length]
      have e : (ruled s.books).length = s.books.length := by
        unfold ruled sortBy
        rw [List.length_map, sort_length, List.length_map, List.length_range]
        show 0 + _ = _
        omega
      rw [e]
      show _ + 1 ≤ 100
      omega
    · exact Nat.le_trans (Nat.le_refl 1) (by omega)
  | block b => exact Nat.le_trans (Nat.le_refl 5) (by omega)
  | critical =>
    show (onFull s _).2.length ≤ 100
    unfold onFull
    split
    · split <;> exact Nat.le_trans (Nat.le_refl 1) (by omega)
    · exact Nat.le_trans (Nat.le_refl 1) (by omega)
  | judge t l =>
    show ([_, _, _] ++ candidates t.toNat l).length ≤ 100
    rw [List.length_append]
    have h1 : (isBetween t 0 10 && isVotes l) = true := hr
    rw [Bool.and_eq_true] at h1
    have h2 := h1.2
    unfold isVotes at h2
    rw [Bool.and_eq_true, decide_eq_true_eq] at h2
    have h3 : (candidates t.toNat l).length ≤ l.length := by
      unfold candidates kinds
      exact Nat.le_trans (List.length_filter_le _ _) eraseDups_length
    show 3 + _ ≤ 100
    omega
  | more t l =>
    show (match atBest t.toNat l with
      | none => [0]
      | some k => [1, (k : Int), (atWorst t.toNat l : Int)]).length ≤ 100
    split
    · exact Nat.le_trans (Nat.le_refl 1) (by omega)
    · exact Nat.le_trans (Nat.le_refl 3) (by omega)
  | blocks l =>
    show (onFull s _).2.length ≤ 100
    unfold onFull
    split <;> exact Nat.le_trans (Nat.le_refl 1) (by omega)
  | swap i => exact Nat.le_trans (Nat.le_refl 2) (by omega)
  | books =>
    show ((s.books.length : Int) :: _).length ≤ 100
    rw [List.length_cons, flat_length]
    omega
  | clear => exact Nat.le_trans (Nat.le_refl 1) (by omega)
theorem step_length {s : State} (g : Good s) (c : List (List Int)) : (step s c).2.length ≤ 100 := by
  unfold step
  split
  · exact Nat.le_trans (Nat.le_refl 1) (by omega)
  · split
    · exact Nat.le_trans (Nat.le_refl 1) (by omega)
    · rename_i h
      exact act_length g (by simpa using h)
end Rm

/-! How many workings more: told by the two greatest counts. Core Lean alone. -/
namespace Rm
open Vbceah VbceCore
theorem dups_ind {Q : List Int → Prop} (h0 : Q []) (h1 : ∀ a l, Q (l.filter fun b => !b == a) → Q (a :: l)) : ∀ l, Q l := by
  have h : ∀ (n : Nat) (l : List Int), l.length ≤ n → Q l := by
    intro n
    induction n with
    | zero =>
      intro l hl
      have : l = [] := List.eq_nil_of_length_eq_zero (by omega)
      rw [this]; exact h0
    | succ n ih =>
      intro l hl
      cases l with
      | nil => exact h0
      | cons a l =>
        have f := List.length_filter_le (fun b => !b == a) l
        rw [List.length_cons] at hl
        exact h1 a l (ih _ (by omega))
  exact fun l => h l.length l (Nat.le_refl _)
theorem kinds_nodup : ∀ l : List Int, (kinds l).Nodup := by
  refine dups_ind ?_ fun a l ih => ?_
  · unfold kinds; simp
  · unfold kinds at ih ⊢
    rw [List.eraseDups_cons, List.nodup_cons]
    refine ⟨?_, ih⟩
    rw [List.mem_eraseDups, List.mem_filter]
    simp
theorem kinds_mem {l : List Int} {v : Int} : v ∈ kinds l ↔ v ∈ l := List.mem_eraseDups
theorem count_ne_filter {a v : Int} {l : List Int} (h : v ≠ a) : (l.filter fun b => !b == a).count v = l.count v := List.count_filter (by simpa using h)
theorem filter_len (a : Int) : ∀ l : List Int, (l.filter fun b => !b == a).length + l.count a = l.length
  | [] => rfl
  | b :: l => by
    have ih := filter_len a l
    rw [List.filter_cons, List.count_cons, List.length_cons]
    by_cases h : b = a
    · subst h
      simp
      omega
    · have e : (b == a) = false := by simpa using h
      rw [e]
      simp
      omega
def counts (vs : List Int) : List Nat := (kinds vs).map fun v => vs.count v
theorem counts_sum : ∀ l : List Int, (counts l).sum = l.length := by
  refine dups_ind rfl fun a l ih => ?_
  have fl := filter_len a l
  unfold counts kinds at ih ⊢
  rw [List.eraseDups_cons, List.map_cons, List.sum_cons]
  have e : ((l.filter fun b => !b == a).eraseDups.map fun v => (a :: l).count v) = ((l.filter fun b => !b == a).eraseDups.map fun v => (l.filter fun b => !b == a).count v) := by
    refine List.map_congr_left fun v hv => ?_
    rw [List.mem_eraseDups, List.mem_filter] at hv
    have hn : v ≠ a := by simpa using hv.2
    rw [count_ne_filter hn, List.count_cons_of_ne (fun z => hn z.symm)]
  rw [e, ih, List.count_cons_self, List.length_cons]
  omega
/-- the two greatest, and the others -/
structure Top2 (vs : List Int) (c1 c2 : Nat) (r : List Nat) : Prop where
  perm : (0 :: 0 :: counts vs).Perm (c1 :: c2 :: r)
  le : c2 ≤ c1
  rest : ∀ x ∈ r, x ≤ c2
theorem Top2.sum_le {vs : List Int} {c1 c2 : Nat} {r : List Nat} (T : Top2 vs c1 c2 r) : c1 + c2 ≤ vs.length := by
  have h := T.perm.sum_nat
  rw [List.sum_cons, List.sum_cons, List.sum_cons, List.sum_cons, counts_sum] at h
  omega
theorem Top2.two {vs : List Int} {c1 c2 : Nat} {r : List Nat} (T : Top2 vs c1 c2 r) {x y : Nat} {s : List Nat} (h : (0 :: 0 :: counts vs).Perm (x :: y :: s)) : x + y ≤ c1 + c2 ∧ (x ≤ c2 ∨ y ≤ c2) := by
  have p : (x :: y :: s).Perm (c1 :: c2 :: r) := h.symm.trans T.perm
  have one : ∀ {z : Nat} {s : List Nat}, (z :: s).Perm (c1 :: c2 :: r) → z = c1 ∨ z ≤ c2 := by
    intro z s q
    have m := q.mem_iff.mp (List.mem_cons_self ..)
    rw [List.mem_cons, List.mem_cons] at m
    rcases m with m | m | m
    · exact .inl m
    · exact .inr (by omega)
    · exact .inr (T.rest _ m)
  have low : ∀ {z : Nat} {s : List Nat}, (c1 :: z :: s).Perm (c1 :: c2 :: r) → z ≤ c2 := by
    intro z s q
    have m := (List.Perm.cons_inv q).mem_iff.mp (List.mem_cons_self ..)
    rw [List.mem_cons] at m
    rcases m with m | m
    · omega
    · exact T.rest _ m
  have hx := one p
  have hy := one ((List.Perm.swap x y s).trans p)
  have le := T.le
  rcases hx with hx | hx
  · subst hx
    have := low p
    omega
  · rcases hy with hy | hy
    · subst hy
      have := low ((List.Perm.swap x y s).trans p)
      omega
    · omega
theorem zip_pairs {c : List Nat} {p : Nat × Nat} : p ∈ (c.zipIdx.flatMap fun x => (c.drop (x.2 + 1)).map fun y => (x.1, y)) ↔ ∃ A B D, c = A ++ p.1 :: (B ++ p.2 :: D) := by
  rw [List.mem_flatMap]
  constructor
  · rintro ⟨⟨x, i⟩, h1, h2⟩
    rw [List.mem_zipIdx_iff_getElem?] at h1
    dsimp only at h1 h2
    rw [List.mem_map] at h2
    obtain ⟨y, h3, rfl⟩ := h2
    obtain ⟨B, D, e⟩ := List.append_of_mem h3
    obtain ⟨hi, e2⟩ := List.getElem?_eq_some_iff.mp h1
    refine ⟨c.take i, B, D, ?_⟩
    have := List.take_append_drop i c
    rw [List.drop_eq_getElem_cons hi, e, e2] at this
    exact this.symm
  · rintro ⟨A, B, D, e⟩
    refine ⟨(p.1, A.length), ?_, ?_⟩
    · rw [List.mem_zipIdx_iff_getElem?, e]
      simp
    · rw [List.mem_map]
      refine ⟨p.2, ?_, rfl⟩
      have e2 : c.drop (A.length + 1) = B ++ p.2 :: D := by
        rw [e, List.drop_append]
        simp
      rw [e2]
      simp
theorem pair_perm {c A B D : List Nat} {x y : Nat} (h : c = A ++ x :: (B ++ y :: D)) : c.Perm (x :: y :: (A ++ (B ++ D))) := by
  rw [h]
  refine List.perm_middle.trans (.cons x ?_)
  rw [← List.append_assoc]
  exact List.perm_middle.trans (.cons y (by rw [List.append_assoc]))
theorem Top2.pair {vs : List Int} {c1 c2 : Nat} {r : List Nat} (T : Top2 vs c1 c2 r) : ∃ A B D, (0 :: 0 :: counts vs) = A ++ c1 :: (B ++ c2 :: D) ∨ (0 :: 0 :: counts vs) = A ++ c2 :: (B ++ c1 :: D) := by
  obtain ⟨A, B, e⟩ := List.append_of_mem (T.perm.mem_iff.mpr (List.mem_cons_self ..))
  have p := T.perm
  rw [e] at p
  have q := List.Perm.cons_inv (List.perm_middle.symm.trans p)
  have m := q.mem_iff.mpr (List.mem_cons_self ..)
  rw [List.mem_append] at m
  rcases m with m | m
  · obtain ⟨A1, A2, e2⟩ := List.append_of_mem m
    refine ⟨A1, A2, B, .inr ?_⟩
    rw [e, e2, List.append_assoc, List.cons_append]
  · obtain ⟨B1, B2, e2⟩ := List.append_of_mem m
    refine ⟨A, B1, B2, .inl ?_⟩
    rw [e, e2]
theorem fold_max {α : Type} (f : α → Nat) : ∀ (l : List α) (m : Nat), (l.foldl (fun m p => max m (f p)) m = m ∨ ∃ p ∈ l, l.foldl (fun m p => max m (f p)) m = f p) ∧ m ≤ l.foldl (fun m p => max m (f p)) m ∧ ∀ p ∈ l, f p ≤ l.foldl (fun m p => max m (f p)) m
  | [], m => ⟨.inl rfl, Nat.le_refl _, fun _ h => nomatch h⟩
  | a :: l, m => by
    rw [List.foldl_cons]
    obtain ⟨h1, h2, h3⟩ := fold_max f l (max m (f a))
    refine ⟨?_, by omega, fun p hp => ?_⟩
    · rcases h1 with h1 | ⟨p, hp, h1⟩
      · by_cases c : f a ≤ m
        · left; rw [h1]; omega
        · right; exact ⟨a, List.mem_cons_self .., by rw [h1]; omega⟩
      · exact .inr ⟨p, List.mem_cons_of_mem _ hp, h1⟩
    · rcases List.mem_cons.mp hp with rfl | hp
      · omega
      · exact h3 p hp
/-- at the latest -/
theorem worst_is {t : Nat} {vs : List Int} {c1 c2 : Nat} {r : List Nat} (T : Top2 vs c1 c2 r) : atWorst t vs = if vs.length - c2 ≤ t then 2 * t + 1 + c1 + c2 - 2 * vs.length else 0 := by
  have hs := T.sum_le
  have hl := T.le
  have mem : ∀ p, p ∈ pairs t vs ↔ (∃ A B D, (0 :: 0 :: counts vs) = A ++ p.1 :: (B ++ p.2 :: D)) ∧ p.1 + (vs.length - p.1 - p.2) ≤ t ∧ p.2 + (vs.length - p.1 - p.2) ≤ t := by
    intro p
    unfold pairs
    dsimp only
    rw [List.mem_filter]
    refine and_congr zip_pairs ?_
    simp
  have two : ∀ p : Nat × Nat, (∃ A B D, (0 :: 0 :: counts vs) = A ++ p.1 :: (B ++ p.2 :: D)) → p.1 + p.2 ≤ c1 + c2 ∧ (p.1 ≤ c2 ∨ p.2 ≤ c2) := by
    rintro p ⟨A, B, D, e⟩
    exact T.two (pair_perm e)
  obtain ⟨h1, h2, h3⟩ := fold_max (fun p : Nat × Nat => 2 * t - (vs.length - p.1 - p.2) - vs.length + 1) (pairs t vs) 0
  show (pairs t vs).foldl (fun m p => max m (2 * t - (vs.length - p.1 - p.2) - vs.length + 1)) 0 = _
  by_cases c : vs.length - c2 ≤ t
  · rw [if_pos c]
    have up : (pairs t vs).foldl (fun m p => max m (2 * t - (vs.length - p.1 - p.2) - vs.length + 1)) 0 ≤ 2 * t + 1 + c1 + c2 - 2 * vs.length := by
      rcases h1 with h1 | ⟨p, hp, h1⟩
      · rw [h1]; omega
      · rw [h1]
        have m := (mem p).mp hp
        have := two p m.1
        omega
    have dn : 2 * t + 1 + c1 + c2 - 2 * vs.length ≤ (pairs t vs).foldl (fun m p => max m (2 * t - (vs.length - p.1 - p.2) - vs.length + 1)) 0 := by
      obtain ⟨A, B, D, e⟩ := T.pair
      rcases e with e | e
      · have := h3 (c1, c2) ((mem _).mpr ⟨⟨A, B, D, e⟩, by dsimp only; omega, by dsimp only; omega⟩)
        dsimp only at this
        omega
      · have := h3 (c2, c1) ((mem _).mpr ⟨⟨A, B, D, e⟩, by dsimp only; omega, by dsimp only; omega⟩)
        dsimp only at this
        omega
    omega
  · rw [if_neg c]
    rcases h1 with h1 | ⟨p, hp, _⟩
    · exact h1
    · have m := (mem p).mp hp
      have := two p m.1
      omega
/-! ### at the earliest -/
theorem verdict_one {t : Nat} {us : List Int} : verdict t us = 1 ↔ t < us.length ∧ ∃ v ∈ us, us.length - us.count v ≤ t ∧ ∀ u ∈ us, us.length - us.count u ≤ t → u = v := by
  have pos : ∀ v, possible t us v = true ↔ us.length - us.count v ≤ t := fun v => by unfold possible; simp
  have hc : ∀ v, v ∈ candidates t us ↔ v ∈ us ∧ us.length - us.count v ≤ t := fun v => by
    unfold candidates
    rw [List.mem_filter, kinds_mem, pos]
  have nd : (candidates t us).Nodup := (List.filter_sublist ..).nodup (kinds_nodup us)
  unfold verdict unseen
  dsimp only
  by_cases c : us.length ≤ t
  · rw [if_pos (by simpa using c)]
    constructor
    · intro h; cases h
    · intro h; omega
  · rw [if_neg (by simpa using c)]
    constructor
    · intro h
      refine ⟨by omega, ?_⟩
      cases e : candidates t us with
      | nil => rw [e] at h; cases h
      | cons v l =>
        cases l with
        | cons v' l => rw [e] at h; cases h
        | nil =>
          have hv := (hc v).mp (by rw [e]; exact List.mem_cons_self ..)
          refine ⟨v, hv.1, hv.2, fun u hu h2 => ?_⟩
          have := (hc u).mpr ⟨hu, h2⟩
          rw [e] at this
          simpa using this
    · rintro ⟨_, v, hv, h1, h2⟩
      have m := (hc v).mpr ⟨hv, h1⟩
      cases e : candidates t us with
      | nil => rw [e] at m; cases m
      | cons a l =>
        cases l with
        | nil => rfl
        | cons b l =>
          have ha := (hc a).mp (by rw [e]; exact List.mem_cons_self ..)
          have hb := (hc b).mp (by rw [e]; exact List.mem_cons_of_mem _ (List.mem_cons_self ..))
          have ea := h2 a ha.1 ha.2
          have eb := h2 b hb.1 hb.2
          rw [e, List.nodup_cons] at nd
          exact absurd (by rw [ea, eb]; exact List.mem_cons_self ..) nd.1
theorem Top2.counts_le {vs : List Int} {c1 c2 : Nat} {r : List Nat} (T : Top2 vs c1 c2 r) (v : Int) : vs.count v ≤ c1 := by
  by_cases h : v ∈ vs
  · have m : vs.count v ∈ 0 :: 0 :: counts vs := List.mem_cons_of_mem _ (List.mem_cons_of_mem _ (List.mem_map.mpr ⟨v, kinds_mem.mpr h, rfl⟩))
    rw [T.perm.mem_iff, List.mem_cons, List.mem_cons] at m
    have := T.le
    rcases m with m | m | m
    · omega
    · omega
    · have := T.rest _ m; omega
  · rw [List.count_eq_zero_of_not_mem h]
    omega
/-- one that has the greatest count; the others' -/
theorem Top2.first {vs : List Int} {c1 c2 : Nat} {r : List Nat} (T : Top2 vs c1 c2 r) (h : 0 < c1) : ∃ v ∈ vs, vs.count v = c1 ∧ (∀ u, u ≠ v → vs.count u ≤ c2) ∧ (0 < c2 → ∃ u ∈ vs, u ≠ v ∧ vs.count u = c2) := by
  have m := T.perm.mem_iff.mpr (List.mem_cons_self ..)
  rw [List.mem_cons, List.mem_cons] at m
  have m' : c1 ∈ counts vs := by
    rcases m with m | m | m
    · omega
    · omega
    · exact m
  obtain ⟨v, hv, e⟩ := List.mem_map.mp m'
  have p1 : (counts vs).Perm (c1 :: ((kinds vs).erase v).map fun v => vs.count v) := by
    have := (List.perm_cons_erase hv).map fun v => vs.count v
    rw [List.map_cons, e] at this
    exact this
  have p2 : (0 :: 0 :: (((kinds vs).erase v).map fun v => vs.count v)).Perm (c2 :: r) := by
    have q : (c1 :: 0 :: 0 :: (((kinds vs).erase v).map fun v => vs.count v)).Perm (c1 :: c2 :: r) := by
      refine List.Perm.trans ?_ T.perm
      refine List.Perm.trans ?_ ((p1.symm.cons 0).cons 0)
      exact (List.Perm.swap 0 c1 _).trans ((List.Perm.swap 0 c1 _).cons 0)
    exact List.Perm.cons_inv q
  refine ⟨v, kinds_mem.mp hv, e, fun u hu => ?_, fun h2 => ?_⟩
  · by_cases mu : u ∈ vs
    · have : vs.count u ∈ 0 :: 0 :: (((kinds vs).erase v).map fun v => vs.count v) := List.mem_cons_of_mem _ (List.mem_cons_of_mem _ (List.mem_map.mpr ⟨u, (List.Nodup.mem_erase_iff (kinds_nodup vs)).mpr ⟨hu, kinds_mem.mpr mu⟩, rfl⟩))
      rw [p2.mem_iff, List.mem_cons] at this
      rcases this with q | q
      · omega
      · exact T.rest _ q
    · rw [List.count_eq_zero_of_not_mem mu]
      omega
  · have q := p2.mem_iff.mpr (List.mem_cons_self ..)
    rw [List.mem_cons, List.mem_cons] at q
    have q' : c2 ∈ (((kinds vs).erase v).map fun v => vs.count v) := by
      rcases q with q | q | q
      · omega
      · omega
      · exact q
    obtain ⟨u, hu, eu⟩ := List.mem_map.mp q'
    rw [List.Nodup.mem_erase_iff (kinds_nodup vs)] at hu
    exact ⟨u, kinds_mem.mp hu.2, hu.1, eu⟩
theorem Top2.second {vs : List Int} {c1 c2 : Nat} {r : List Nat} (T : Top2 vs c1 c2 r) (h : 0 < c2) (w : Int) : ∃ u ∈ vs, u ≠ w ∧ c2 ≤ vs.count u := by
  have := T.le
  obtain ⟨v, hv, e, _, k⟩ := T.first (by omega)
  by_cases c : v = w
  · obtain ⟨u, hu, h1, h2⟩ := k h
    exact ⟨u, hu, by rw [← c]; exact h1, by omega⟩
  · exact ⟨v, hv, c, by omega⟩
theorem more_count {vs : List Int} {k : Nat} {v u : Int} : (vs ++ List.replicate k v).count u = vs.count u + if v = u then k else 0 := by
  rw [List.count_append, List.count_replicate]
  congr 1
  by_cases h : v = u
  · rw [if_pos (by simpa using h), if_pos h]
  · rw [if_neg (by simpa using h), if_neg h]
theorem sure_low {t : Nat} {vs : List Int} {c1 c2 : Nat} {r : List Nat} (T : Top2 vs c1 c2 r) {k : Nat} {v : Int} (h : verdict t (vs ++ List.replicate k v) = 1) : vs.length - c1 ≤ t ∧ t + 1 + c2 - vs.length ≤ k := by
  rw [verdict_one, List.length_append, List.length_replicate] at h
  obtain ⟨h1, w, hw, h2, h3⟩ := h
  have a1 := T.counts_le w
  rw [more_count] at h2
  refine ⟨?_, ?_⟩
  · split at h2 <;> omega
  · by_cases c : c2 = 0
    · omega
    · obtain ⟨u, hu, hn, hc⟩ := T.second (by omega) w
      have : ¬ (vs.length + k - (vs ++ List.replicate k v).count u ≤ t) := fun z => hn (h3 u (List.mem_append_left _ hu) z)
      rw [more_count] at this
      split at this <;> omega
theorem sure_at {t : Nat} {vs : List Int} {c1 c2 : Nat} {r : List Nat} (T : Top2 vs c1 c2 r) (h : vs.length - c1 ≤ t) : ∃ v ∈ unheard vs :: kinds vs, verdict t (vs ++ List.replicate (t + 1 + c2 - vs.length) v) = 1 := by
  have hs := T.sum_le
  by_cases c : c1 = 0
  · have e0 : vs = [] := by
      cases vs with
      | nil => rfl
      | cons a l =>
        have := T.counts_le a
        rw [List.count_cons_self] at this
        omega
    subst e0
    refine ⟨_, List.mem_cons_self .., ?_⟩
    have := T.le
    rw [verdict_one]
    refine ⟨by simp; omega, unheard [], ?_, ?_, ?_⟩
    · simp
    · rw [more_count, if_pos rfl]
      simp
    · intro u hu _
      rw [List.nil_append] at hu
      exact (List.mem_replicate.mp hu).2
  · have hc1 : 0 < c1 := by omega
    obtain ⟨v, hv, e, k, -⟩ := T.first hc1
    refine ⟨v, List.mem_cons_of_mem _ (kinds_mem.mpr hv), ?_⟩
    rw [verdict_one, List.length_append, List.length_replicate]
    have hgt : t < vs.length + (t + 1 + c2 - vs.length) := by omega
    refine ⟨hgt, v, List.mem_append_left _ hv, ?_, fun u hu h2 => ?_⟩
    · rw [more_count, if_pos rfl]
      omega
    · by_cases cu : u = v
      · exact cu
      · exfalso
        rw [more_count, if_neg (fun z => cu z.symm)] at h2
        have := k u cu
        omega
/-- at the earliest -/
theorem best_is {t : Nat} {vs : List Int} {c1 c2 : Nat} {r : List Nat} (T : Top2 vs c1 c2 r) : atBest t vs = if vs.length - c1 ≤ t then some (t + 1 + c2 - vs.length) else none := by
  have hs := T.sum_le
  unfold atBest
  by_cases c : vs.length - c1 ≤ t
  · rw [if_pos c, List.find?_range_eq_some]
    refine ⟨?_, List.mem_range.mpr (by omega), fun j hj => ?_⟩
    · obtain ⟨v, hv, e⟩ := sure_at T c
      rw [List.any_eq_true]
      exact ⟨v, hv, by rw [e]; rfl⟩
    · rw [Bool.not_eq_true', List.any_eq_false]
      intro v _ e
      have := (sure_low T (by simpa using e)).2
      omega
  · rw [if_neg c, List.find?_range_eq_none]
    intro j _
    rw [Bool.not_eq_true', List.any_eq_false]
    intro v _ e
    exact c (sure_low T (by simpa using e)).1
end Rm

/-! Blocks: desks that are never empty. Core Lean alone. -/
namespace Rm
open Vbceah VbceCore
theorem snoc_ind {α : Type} {Q : List α → Prop} (h0 : Q []) (h1 : ∀ l a, Q l → Q (l ++ [a])) (l : List α) : Q l := by
  have h : ∀ l : List α, Q l.reverse := by
    intro l
    induction l with
    | nil => exact h0
    | cons a l ih => rw [List.reverse_cons]; exact h1 _ _ ih
  have := h l.reverse
  rwa [List.reverse_reverse] at this
def F1 (l : List Sheet) : Nat := (l.map fun s => s.first).sum
def F2 (l : List Sheet) : Nat := (l.map fun s => s.second).sum
theorem F1_snoc (l : List Sheet) (s : Sheet) : F1 (l ++ [s]) = F1 l + s.first := by unfold F1; rw [List.map_append, List.sum_append]; simp
theorem F2_snoc (l : List Sheet) (s : Sheet) : F2 (l ++ [s]) = F2 l + s.second := by unfold F2; rw [List.map_append, List.sum_append]; simp
theorem F1_append (l m : List Sheet) : F1 (l ++ m) = F1 l + F1 m := by unfold F1; rw [List.map_append, List.sum_append]
theorem F2_append (l m : List Sheet) : F2 (l ++ m) = F2 l + F2 m := by unfold F2; rw [List.map_append, List.sum_append]
theorem placed_nil (c : Clock) (s : Sheet) : placed [] [] c s = ⟨c.one + s.first, max c.two (c.one + s.first) + s.second⟩ := rfl
/-- the clocks behind some sheets, from any clocks on -/
def run0 (c : Clock) (l : List Sheet) : Clock := l.foldl (placed [] []) c
theorem run0_snoc (c : Clock) (l : List Sheet) (s : Sheet) : run0 c (l ++ [s]) = placed [] [] (run0 c l) s := by unfold run0; rw [List.foldl_append]; rfl
theorem run0_append (c : Clock) (l m : List Sheet) : run0 c (l ++ m) = run0 (run0 c l) m := by unfold run0; rw [List.foldl_append]
theorem run0_one (c : Clock) (l : List Sheet) : (run0 c l).one = c.one + F1 l := by
  induction l using snoc_ind with
  | h0 => rfl
  | h1 l s ih => rw [run0_snoc, placed_nil, F1_snoc]; dsimp only; omega
theorem run0_le (c : Clock) (h : c.one ≤ c.two) (l : List Sheet) : (run0 c l).one ≤ (run0 c l).two := by
  induction l using snoc_ind with
  | h0 => exact h
  | h1 l s ih => rw [run0_snoc, placed_nil]; dsimp only; omega
theorem run0_through (c : Clock) (h : c.one ≤ c.two) (l : List Sheet) : run0 c l = through c (blockOf l) := by
  have key : (run0 c l).two = max (c.two + F2 l) (c.one + (run0 ⟨0, 0⟩ l).two) := by
    induction l using snoc_ind with
    | h0 =>
      show c.two = max (c.two + 0) (c.one + 0)
      omega
    | h1 l s ih =>
      have a1 := run0_one c l
      have a2 := run0_one ⟨0, 0⟩ l
      rw [run0_snoc, run0_snoc, placed_nil, placed_nil, F2_snoc]
      dsimp only at a2 ⊢
      rw [ih, a1, a2]
      omega
  have e1 := run0_one c l
  cases hc : run0 c l with
  | mk a b =>
    rw [hc] at key e1
    dsimp only at key e1
    rw [key, e1]
    rfl
theorem blockOf_both (l : List Sheet) : (blockOf l).both = (run0 ⟨0, 0⟩ l).two := rfl
theorem blockOf_one (l : List Sheet) : (blockOf l).one = F1 l := rfl
theorem blockOf_two (l : List Sheet) : (blockOf l).two = F2 l := rfl
theorem both_ge (l : List Sheet) : F1 l ≤ (blockOf l).both ∧ F2 l ≤ (blockOf l).both := by
  rw [blockOf_both]
  induction l using snoc_ind with
  | h0 => exact ⟨Nat.le_refl _, Nat.le_refl _⟩
  | h1 l s ih =>
    have a := run0_one ⟨0, 0⟩ l
    rw [run0_snoc, placed_nil, F1_snoc, F2_snoc]
    dsimp only at a ⊢
    omega
/-- whole books one behind the other: their sheets -/
theorem blocks_run (bs : List Book) : ∀ (l : List Nat) (c : Clock), c.one ≤ c.two → l.foldl (fun c i => through c (blockOf (bookAt bs i))) c = run0 c (l.flatMap fun i => bookAt bs i)
  | [], _, _ => rfl
  | i :: l, c, h => by
    rw [List.foldl_cons, List.flatMap_cons, run0_append, ← run0_through c h]
    exact blocks_run bs l _ (run0_le c h _)
theorem end_run (bs : List Book) (l : List Nat) : endOfBlocks bs l = (run0 ⟨0, 0⟩ (l.flatMap fun i => bookAt bs i)).two := by
  unfold endOfBlocks
  rw [blocks_run bs l ⟨0, 0⟩ (Nat.le_refl _)]
/-- the same as an order -/
theorem sheets_rep (bs : List Book) (b : Nat) : ∀ (k : Nat) (had rest : List Nat), doneOf had b + k = (bookAt bs b).length → sheetsOf bs (List.replicate k b ++ rest) had = (bookAt bs b).drop (doneOf had b) ++ sheetsOf bs rest (had ++ List.replicate k b)
  | 0, had, rest, h => by
    rw [List.drop_eq_nil_of_le (by omega)]
    simp
  | k + 1, had, rest, h => by
    have hlt : doneOf had b < (bookAt bs b).length := by omega
    have hd : doneOf (had ++ [b]) b = doneOf had b + 1 := by unfold doneOf; rw [List.count_append]; simp
    rw [List.replicate_succ, List.cons_append]
    have e : sheetsOf bs (b :: (List.replicate k b ++ rest)) had = (bookAt bs b)[doneOf had b] :: sheetsOf bs (List.replicate k b ++ rest) (had ++ [b]) := by
      show (match (bookAt bs b)[doneOf had b]? with
        | none => sheetsOf bs (List.replicate k b ++ rest) had
        | some s => s :: sheetsOf bs (List.replicate k b ++ rest) (had ++ [b])) = _
      rw [List.getElem?_eq_getElem hlt]
    rw [e, sheets_rep bs b k (had ++ [b]) rest (by omega), hd, List.drop_eq_getElem_cons hlt, List.cons_append, List.append_assoc]
    rfl
def asOrder (bs : List Book) (l : List Nat) : List Nat := l.flatMap fun b => List.replicate (bookAt bs b).length b
theorem sheets_blocks (bs : List Book) : ∀ (l had : List Nat), l.Nodup → (∀ b ∈ l, b ∉ had) → sheetsOf bs (asOrder bs l) had = l.flatMap fun i => bookAt bs i
  | [], _, _, _ => rfl
  | b :: l, had, nd, h => by
    rw [List.nodup_cons] at nd
    have h0 : doneOf had b = 0 := List.count_eq_zero_of_not_mem (h b (List.mem_cons_self ..))
    have e : asOrder bs (b :: l) = List.replicate (bookAt bs b).length b ++ asOrder bs l := rfl
    rw [e, sheets_rep bs b _ had _ (by rw [h0]; omega), h0, List.drop_zero, List.flatMap_cons, sheets_blocks bs l _ nd.2]
    intro b' hb' m
    rcases List.mem_append.mp m with m | m
    · exact h b' (List.mem_cons_of_mem _ hb') m
    · rw [(List.mem_replicate.mp m).2] at hb'
      exact nd.1 hb'
theorem end_order (bs : List Book) {l : List Nat} (nd : l.Nodup) : endOfBlocks bs l = (clockOf [] [] (sheetsOf bs (asOrder bs l) [])).two := by
  rw [end_run, sheets_blocks bs l [] nd (fun _ _ h => nomatch h)]
  rfl
/-! ### the sheet on which the end hangs -/
def path (l : List Sheet) (k : Nat) : Nat := F1 (l.take (k + 1)) + F2 (l.drop k)
theorem path_snoc {l : List Sheet} {s : Sheet} {k : Nat} (h : k < l.length) : path (l ++ [s]) k = path l k + s.second := by
  unfold path
  rw [List.take_append_of_le_length (by omega), List.drop_append_of_le_length (by omega), F2_snoc]
  omega
theorem path_last {l : List Sheet} {s : Sheet} : path (l ++ [s]) l.length = F1 (l ++ [s]) + s.second := by
  unfold path
  rw [List.take_of_length_le (by simp), List.drop_append_of_le_length (Nat.le_refl _), List.drop_length, List.nil_append]
  simp [F2]
theorem path_all (l : List Sheet) : (∀ k, k < l.length → path l k ≤ (clockOf [] [] l).two) ∧ (l ≠ [] → ∃ k, k < l.length ∧ path l k = (clockOf [] [] l).two) := by
  show (∀ k, k < l.length → path l k ≤ (run0 ⟨0, 0⟩ l).two) ∧ (l ≠ [] → ∃ k, k < l.length ∧ path l k = (run0 ⟨0, 0⟩ l).two)
  induction l using snoc_ind with
  | h0 => exact ⟨fun k h => absurd h (by simp), fun h => absurd rfl h⟩
  | h1 l s ih =>
    have a := run0_one ⟨0, 0⟩ l
    have b := F1_snoc l s
    have c : (run0 ⟨0, 0⟩ (l ++ [s])).two = max (run0 ⟨0, 0⟩ l).two (F1 (l ++ [s])) + s.second := by
      rw [run0_snoc, placed_nil]
      dsimp only at a ⊢
      rw [a, b, Nat.zero_add]
    rw [c]
    refine ⟨fun k hk => ?_, fun _ => ?_⟩
    · rw [List.length_append, List.length_singleton] at hk
      by_cases e : k < l.length
      · rw [path_snoc e]
        have := ih.1 k e
        omega
      · have : k = l.length := by omega
        rw [this, path_last]
        omega
    · by_cases q : F1 (l ++ [s]) ≤ (run0 ⟨0, 0⟩ l).two ∧ l ≠ []
      · obtain ⟨k, hk, e⟩ := ih.2 q.2
        refine ⟨k, by rw [List.length_append]; omega, ?_⟩
        rw [path_snoc hk, e]
        omega
      · refine ⟨l.length, by simp, ?_⟩
        rw [path_last]
        by_cases z : l = []
        · subst z
          show _ = max 0 (F1 [s]) + s.second
          rw [Nat.zero_max]
          rfl
        · have : ¬ F1 (l ++ [s]) ≤ (run0 ⟨0, 0⟩ l).two := fun y => q ⟨y, z⟩
          omega
theorem critical_some {l : List Sheet} {k : Nat} : critical l = some k ↔ k < l.length ∧ path l k = (clockOf [] [] l).two ∧ ∀ j, j < k → path l j ≠ (clockOf [] [] l).two := by
  unfold critical
  dsimp only
  rw [List.find?_range_eq_some, List.mem_range]
  have e : ∀ k, ((((l.take (k + 1)).map fun s => s.first).sum + ((l.drop k).map fun s => s.second).sum) == (clockOf [] [] l).two) = decide (path l k = (clockOf [] [] l).two) := fun k => rfl
  simp only [e]
  simp only [decide_eq_true_eq, Bool.not_eq_true', decide_eq_false_iff_not]
  constructor
  · rintro ⟨h1, h2, h3⟩; exact ⟨h2, h1, h3⟩
  · rintro ⟨h1, h2, h3⟩; exact ⟨h2, h1, h3⟩
theorem critical_nil : critical [] = none := rfl
theorem critical_ne {l : List Sheet} (h : l ≠ []) : ∃ k, critical l = some k := by
  cases e : critical l with
  | some k => exact ⟨k, rfl⟩
  | none =>
    obtain ⟨k, hk, q⟩ := (path_all l).2 h
    unfold critical at e
    dsimp only at e
    rw [List.find?_range_eq_none] at e
    have := e k hk
    rw [Bool.not_eq_true'] at this
    have z : (path l k == (clockOf [] [] l).two) = false := this
    rw [q] at z
    simp at z
/-! ### the two-desk rule -/
theorem insert_perm {α : Type} (f : α → α → Bool) (x : α) : ∀ l : List α, (insertBy f x l).Perm (x :: l)
  | [] => .refl _
  | y :: l => by
    show (if f x y = true then x :: y :: l else y :: insertBy f x l).Perm _
    split
    · exact .refl _
    · exact ((insert_perm f x l).cons y).trans (.swap x y l)
theorem sort_perm_go {α : Type} (f : α → α → Bool) : ∀ (l a : List α), (l.foldl (fun a x => insertBy f x a) a).Perm (a ++ l)
  | [], a => by simp
  | x :: l, a => by
    rw [List.foldl_cons]
    refine (sort_perm_go f l _).trans ?_
    refine ((insert_perm f x a).append_right l).trans ?_
    exact List.perm_middle.symm
theorem sort_perm {α : Type} (f : α → α → Bool) (l : List α) : (sortBy f l).Perm l := sort_perm_go f l []
theorem insert_sorted {α : Type} {f : α → α → Bool} {x : α} (tr : ∀ a b c, f a b = true → f b c = true → f a c = true) : ∀ {l : List α}, (∀ y ∈ l, f x y = true ∨ f y x = true) → l.Pairwise (fun a b => f a b = true) → (insertBy f x l).Pairwise (fun a b => f a b = true)
  | [], _, _ => List.pairwise_singleton ..
  | y :: l, h, p => by
    show (if f x y = true then x :: y :: l else y :: insertBy f x l).Pairwise _
    rw [List.pairwise_cons] at p
    split
    · rename_i c
      rw [List.pairwise_cons]
      refine ⟨fun z hz => ?_, List.pairwise_cons.mpr p⟩
      rcases List.mem_cons.mp hz with rfl | hz
      · exact c
      · exact tr _ _ _ c (p.1 z hz)
    · rename_i c
      have hy : f y x = true := by
        rcases h y (List.mem_cons_self ..) with q | q
        · exact absurd q c
        · exact q
      rw [List.pairwise_cons]
      refine ⟨fun z hz => ?_, insert_sorted tr (fun z hz => h z (List.mem_cons_of_mem _ hz)) p.2⟩
      rw [(insert_perm f x l).mem_iff, List.mem_cons] at hz
      rcases hz with rfl | hz
      · exact hy
      · exact p.1 z hz
theorem goes_trans (a b c : Nat × Block) (h1 : goesFirst a b = true) (h2 : goesFirst b c = true) : goesFirst a c = true := by
  unfold goesFirst at *
  dsimp only at *
  by_cases ha : lead a.2 ≤ tail a.2 <;> by_cases hb : lead b.2 ≤ tail b.2 <;> by_cases hc : lead c.2 ≤ tail c.2 <;>
    simp [ha, hb, hc] at h1 h2 ⊢ <;> omega
theorem goes_total (a b : Nat × Block) (h : a.1 ≠ b.1) : goesFirst a b = true ∨ goesFirst b a = true := by
  unfold goesFirst
  dsimp only
  by_cases ha : lead a.2 ≤ tail a.2 <;> by_cases hb : lead b.2 ≤ tail b.2 <;> simp [ha, hb] <;> omega
theorem goes_asymm (a b : Nat × Block) (h1 : goesFirst a b = true) (h2 : goesFirst b a = true) : False := by
  unfold goesFirst at *
  dsimp only at *
  by_cases ha : lead a.2 ≤ tail a.2 <;> by_cases hb : lead b.2 ≤ tail b.2 <;> simp [ha, hb] at h1 h2 <;> omega
theorem sort_sorted_go : ∀ (l a : List (Nat × Block)), (a ++ l).Pairwise (fun x y => x.1 ≠ y.1) → a.Pairwise (fun x y => goesFirst x y = true) → (l.foldl (fun a x => insertBy goesFirst x a) a).Pairwise (fun x y => goesFirst x y = true)
  | [], _, _, p => p
  | x :: l, a, d, p => by
    rw [List.foldl_cons]
    refine sort_sorted_go l _ ?_ (insert_sorted goes_trans (fun y hy => ?_) p)
    · refine (List.Perm.pairwise_iff (fun h z => h z.symm) ?_).mp d
      exact List.perm_middle.trans ((insert_perm goesFirst x a).symm.append_right l)
    · rw [List.pairwise_append] at d
      exact goes_total _ _ (fun z => d.2.2 y hy x (List.mem_cons_self ..) z.symm)
def blk (bs : List Book) (i : Nat) : Nat × Block := (i, blockOf (bookAt bs i))
theorem ruled_perm (bs : List Book) : (ruled bs).Perm (List.range bs.length) := by
  unfold ruled
  have := (sort_perm goesFirst ((List.range bs.length).map (blk bs))).map fun x => x.1
  rw [List.map_map] at this
  have e : (List.range bs.length).map ((fun x : Nat × Block => x.1) ∘ blk bs) = List.range bs.length := by
    have : ((fun x : Nat × Block => x.1) ∘ blk bs) = id := rfl
    rw [this, List.map_id]
  rw [e] at this
  exact this
theorem ruled_sorted (bs : List Book) : (ruled bs).Pairwise (fun i j => goesFirst (blk bs i) (blk bs j) = true) := by
  have s : (sortBy goesFirst ((List.range bs.length).map (blk bs))).Pairwise (fun x y => goesFirst x y = true) := by
    refine sort_sorted_go _ [] ?_ .nil
    rw [List.nil_append, List.pairwise_map]
    exact List.nodup_range.imp fun h => h
  have p := sort_perm goesFirst ((List.range bs.length).map (blk bs))
  show ((sortBy goesFirst ((List.range bs.length).map (blk bs))).map fun x => x.1).Pairwise _
  rw [List.pairwise_map]
  refine s.imp_of_mem fun {x y} hx hy h => ?_
  rw [p.mem_iff, List.mem_map] at hx hy
  obtain ⟨i, _, rfl⟩ := hx
  obtain ⟨j, _, rfl⟩ := hy
  exact h
theorem sorted_unique {α : Type} {R : α → α → Prop} (as : ∀ a b, R a b → R b a → False) : ∀ {l m : List α}, l.Perm m → l.Pairwise R → m.Pairwise R → l = m
  | [], m, p, _, _ => (List.nil_perm.mp p).symm
  | a :: l, [], p, _, _ => absurd (List.perm_nil.mp p) (by simp)
  | a :: l, b :: m, p, h1, h2 => by
    rw [List.pairwise_cons] at h1 h2
    have e : a = b := by
      have m1 := p.mem_iff.mp (List.mem_cons_self ..)
      have m2 := p.mem_iff.mpr (List.mem_cons_self ..)
      rcases List.mem_cons.mp m1 with m1 | m1
      · exact m1
      · rcases List.mem_cons.mp m2 with m2 | m2
        · exact m2.symm
        · exact (as _ _ (h1.1 b m2) (h2.1 a m1)).elim
    subst e
    rw [sorted_unique as (List.Perm.cons_inv p) h1.2 h2.2]
/-- whoever sorts the books by the rule has the ruled ones -/
theorem ruled_is {bs : List Book} {o : List Nat} (p : o.Perm (List.range bs.length)) (h : o.Pairwise (fun i j => goesFirst (blk bs i) (blk bs j) = true)) : o = ruled bs :=
  sorted_unique (fun _ _ => goes_asymm _ _) (p.trans (ruled_perm bs).symm) h (ruled_sorted bs)
end Rm

/-! What the calls of the second stage tell. Core Lean alone. -/
namespace Rm
open Vbceah VbceCore
/-! ### orders -/
theorem runs_perm {bs : List Book} {o l : List Nat} (p : o.Perm l) (R : Runs bs [] l) : Runs bs [] o :=
  ⟨fun b hb => R.1 b (p.mem_iff.mp hb), fun b hb => by have := R.2 b hb; rwa [List.nil_append, ← p.count_eq] at this⟩
theorem asOrder_count (bs : List Book) (b : Nat) : ∀ l : List Nat, l.Nodup → (asOrder bs l).count b = if b ∈ l then (bookAt bs b).length else 0
  | [], _ => rfl
  | a :: l, nd => by
    rw [List.nodup_cons] at nd
    have e : asOrder bs (a :: l) = List.replicate (bookAt bs a).length a ++ asOrder bs l := rfl
    rw [e, List.count_append, List.count_replicate, asOrder_count bs b l nd.2]
    by_cases c : a = b
    · subst c
      rw [if_neg nd.1]
      simp
    · have c1 : (a == b) = false := by simpa using c
      rw [c1]
      have : (b ∈ a :: l) ↔ b ∈ l := by rw [List.mem_cons]; exact ⟨fun z => z.elim (fun q => absurd q.symm c) id, .inr⟩
      by_cases m : b ∈ l
      · rw [if_pos m, if_pos (this.mpr m)]; simp
      · rw [if_neg m, if_neg (fun z => m (this.mp z))]; simp
theorem asOrder_runs {bs : List Book} {l : List Nat} (nd : l.Nodup) (h : ∀ b ∈ l, b < bs.length) : Runs bs [] (asOrder bs l) := by
  refine ⟨fun b hb => ?_, fun b _ => ?_⟩
  · unfold asOrder at hb
    rw [List.mem_flatMap] at hb
    obtain ⟨a, ha, hm⟩ := hb
    rw [(List.mem_replicate.mp hm).2]
    exact h a ha
  · rw [List.nil_append, asOrder_count bs b l nd]
    split <;> omega
theorem clocks_len (e1 e2 : Breaks) : ∀ (l : List Sheet) (c : Clock), (clocks e1 e2 c l).length = l.length
  | [], _ => rfl
  | _ :: l, _ => congrArg (· + 1) (clocks_len e1 e2 l _)
theorem sheets_len {bs : List Book} {order : List Nat} (R : Runs bs [] order) : (sheetsOf bs order []).length = order.length := by
  have h := congrArg List.length (trail_clocks (e1 := []) (e2 := []) R)
  rw [List.length_map, trail_len R, clocks_len] at h
  exact h.symm
/-! ### next -/
def nextEnd (s : State) (b : Nat) : Int := match nextOf s.books s.empty1 s.empty2 (lead0 s.books s.empty1 s.empty2 s.order) b with
  | none => -1
  | some y => ((leastFrom s.books s.empty1 s.empty2 y.1 y.2 : Nat) : Int)
theorem step_next {s : State} (g : Good s) : step s [[10]] = (s, (s.books.length : Int) :: (List.range s.books.length).map (nextEnd s)) := by
  show (s, (s.books.length : Int) :: (List.range s.books.length).map fun b => match (bookAt s.books b)[(progress s.books s.order).getD b 0]? with
      | none => (-1 : Int)
      | some x => (leastFrom s.books s.empty1 s.empty2 ((progress s.books s.order).set b ((progress s.books s.order).getD b 0 + 1)) (placed s.empty1 s.empty2 (clockNow s s.order) x) : Int)) = _
  congr 2
  refine List.map_congr_left fun b _ => ?_
  unfold nextEnd
  rw [lead0_eq (e1 := s.empty1) (e2 := s.empty2) g.runs]
  unfold nextOf
  cases h : (bookAt s.books b)[(progress s.books s.order).getD b 0]? with
  | none => rfl
  | some x => rfl
/-! ### desks that are never empty -/
theorem full_if {s : State} {f : State × Answer} (h1 : s.empty1 = []) (h2 : s.empty2 = []) : onFull s f = f := by
  unfold onFull
  rw [if_pos ⟨by rw [h1]; rfl, by rw [h2]; rfl⟩]
theorem full_no {s : State} {f : State × Answer} (h : ¬ (s.empty1 = [] ∧ s.empty2 = [])) : onFull s f = (s, [-7]) := by
  unfold onFull
  rw [if_neg (fun z => h ⟨List.isEmpty_iff.mp z.1, List.isEmpty_iff.mp z.2⟩)]
  rfl
theorem step_rule (s : State) : step s [[11]] = onFull s (s, listRow (ruled s.books) ++ [(endOfBlocks s.books (ruled s.books) : Int)]) := rfl
theorem step_critical (s : State) : step s [[13]] = onFull s (match critical (sheetsOf s.books s.order []) with
      | none => no s 5
      | some k => (s, [(k : Int)])) := rfl
theorem critical_none {s : State} (h : s.order = []) : critical (sheetsOf s.books s.order []) = none := by rw [h]; rfl
theorem critical_ord {s : State} (g : Good s) (h : s.order ≠ []) : ∃ k, critical (sheetsOf s.books s.order []) = some k := by
  refine critical_ne fun z => h ?_
  have := sheets_len g.runs
  rw [z] at this
  exact List.eq_nil_of_length_eq_zero this.symm
theorem between_nat {b : Int} {n : Nat} : isBetween b 0 ((n : Int) - 1) = true ↔ ∃ i : Nat, b = i ∧ i < n := by
  unfold isBetween
  rw [Bool.and_eq_true, decide_eq_true_eq, decide_eq_true_eq]
  constructor
  · rintro ⟨h1, h2⟩; exact ⟨b.toNat, by omega, by omega⟩
  · rintro ⟨i, rfl, h⟩; omega
theorem step_block_no {s : State} {b : Int} (h : ¬ ∃ i : Nat, b = i ∧ i < s.books.length) : step s [[12, b]] = (s, [-1]) := by
  show (if isBook s b = false then (s, [-1]) else act s (.block b)) = _
  have : isBook s b = false := by
    unfold isBook
    exact Bool.eq_false_iff.mpr fun z => h (between_nat.mp z)
  rw [if_pos this]
theorem step_block {s : State} {i : Nat} (h : i < s.books.length) : step s [[12, (i : Int)]] = (s, VbceCore.ints [F1 (bookAt s.books i), F2 (bookAt s.books i), (blockOf (bookAt s.books i)).both, (blockOf (bookAt s.books i)).both - F2 (bookAt s.books i), (blockOf (bookAt s.books i)).both - F1 (bookAt s.books i)]) := by
  show (if isBook s (i : Int) = false then (s, [-1]) else act s (.block i)) = _
  have : isBook s (i : Int) = true := between_nat.mpr ⟨i, rfl, h⟩
  rw [if_neg (by rw [this]; exact Bool.noConfusion)]
  rfl
/-! ### unlike books -/
theorem kinds_le : ∀ l : List Int, (kinds l).length ≤ l.length := by
  refine dups_ind (Nat.le_refl _) fun a l ih => ?_
  unfold kinds at ih ⊢
  rw [List.eraseDups_cons, List.length_cons, List.length_cons]
  have := List.length_filter_le (fun b => !b == a) l
  omega
theorem kinds_same : ∀ l : List Int, (kinds l).length = l.length → l.Nodup := by
  refine dups_ind (fun _ => .nil) fun a l ih h => ?_
  have k := kinds_le (l.filter fun b => !b == a)
  have f := List.length_filter_le (fun b => !b == a) l
  unfold kinds at h k ih
  rw [List.eraseDups_cons, List.length_cons, List.length_cons] at h
  have fl := filter_len a l
  have c0 : l.count a = 0 := by omega
  have ef : (l.filter fun b => !b == a) = l := by
    rw [List.filter_eq_self]
    intro b hb
    have : b ≠ a := fun z => by
      rw [z] at hb
      exact List.count_eq_zero.mp c0 hb
    simpa using this
  rw [List.nodup_cons]
  refine ⟨List.count_eq_zero.mp c0, ?_⟩
  rw [ef] at ih h
  exact ih (by omega)
theorem kinds_id : ∀ l : List Int, l.Nodup → kinds l = l := by
  refine dups_ind (fun _ => rfl) fun a l ih h => ?_
  rw [List.nodup_cons] at h
  have ef : (l.filter fun b => !b == a) = l := by
    rw [List.filter_eq_self]
    intro b hb
    have : b ≠ a := fun z => h.1 (by rw [← z]; exact hb)
    simpa using this
  unfold kinds at ih ⊢
  rw [List.eraseDups_cons, ef]
  rw [ef] at ih
  rw [ih h.2]
theorem unlike_iff {l : List Int} : unlike l = true ↔ l.Nodup := by
  unfold unlike
  rw [beq_iff_eq]
  exact ⟨kinds_same l, fun h => congrArg List.length (kinds_id l h)⟩
theorem nat_list {n : Nat} : ∀ {l : List Int}, (l.all fun b => isBetween b 0 ((n : Int) - 1)) = true → ∃ o : List Nat, l = VbceCore.ints o ∧ l.map Int.toNat = o ∧ ∀ b ∈ o, b < n
  | [], _ => ⟨[], rfl, rfl, fun _ h => nomatch h⟩
  | a :: l, h => by
    rw [List.all_cons, Bool.and_eq_true] at h
    obtain ⟨i, e, hi⟩ := between_nat.mp h.1
    obtain ⟨o, e1, e2, e3⟩ := nat_list h.2
    refine ⟨i :: o, ?_, ?_, fun b hb => ?_⟩
    · rw [e, e1]; rfl
    · rw [List.map_cons, e2, e]; rfl
    · rcases List.mem_cons.mp hb with rfl | hb
      · exact hi
      · exact e3 b hb
theorem ints_nodup {o : List Nat} : (VbceCore.ints o).Nodup ↔ o.Nodup := by
  unfold VbceCore.ints List.Nodup
  rw [List.pairwise_map]
  constructor
  · intro h; exact h.imp fun {a b} z q => z (by rw [q])
  · intro h; exact h.imp fun {a b} z q => z (Int.ofNat.inj q)
theorem step_blocks_no {s : State} {l : List Int} (h : ¬ (l.Nodup ∧ (l.all fun b => isBetween b 0 ((s.books.length : Int) - 1)) = true)) : step s [[16], l] = (s, [-1]) := by
  show (if (unlike l && l.all (isBook s)) = false then (s, [-1]) else act s (.blocks l)) = _
  have : (unlike l && l.all (isBook s)) = false := by
    refine Bool.eq_false_iff.mpr fun z => h ?_
    rw [Bool.and_eq_true] at z
    exact ⟨unlike_iff.mp z.1, z.2⟩
  rw [if_pos this]
theorem step_blocks {s : State} {o : List Nat} (nd : o.Nodup) (h : ∀ b ∈ o, b < s.books.length) : step s [[16], VbceCore.ints o] = onFull s (s, [(endOfBlocks s.books o : Int)]) := by
  show (if (unlike (VbceCore.ints o) && (VbceCore.ints o).all (isBook s)) = false then (s, [-1]) else onFull s (s, [(endOfBlocks s.books ((VbceCore.ints o).map Int.toNat) : Int)])) = _
  have e1 : unlike (VbceCore.ints o) = true := unlike_iff.mpr (ints_nodup.mpr nd)
  have e2 : (VbceCore.ints o).all (isBook s) = true := by
    rw [List.all_eq_true]
    intro b hb
    obtain ⟨i, hi, rfl⟩ := List.mem_map.mp hb
    exact between_nat.mpr ⟨i, rfl, h i hi⟩
  have e3 : (VbceCore.ints o).map Int.toNat = o := by
    unfold VbceCore.ints
    rw [List.map_map]
    exact List.map_id _
  rw [e1, e2, e3]
  rfl
/-! ### judge, more -/
theorem kinds_snoc (l : List Int) (a : Int) : kinds (l ++ [a]) = if a ∈ l then kinds l else kinds l ++ [a] := by
  unfold kinds
  rw [List.eraseDups_append]
  by_cases h : a ∈ l
  · rw [if_pos h]
    have : [a].removeAll l = [] := by
      unfold List.removeAll
      simp [h]
    rw [this]
    simp
  · rw [if_neg h]
    have : [a].removeAll l = [a] := by
      unfold List.removeAll
      simp [h]
    rw [this, List.eraseDups_cons]
    simp
def candTill (t : Nat) (vs pre : List Int) : List Int := (kinds pre).filter (possible t vs)
theorem candTill_all (t : Nat) (vs : List Int) : candTill t vs vs = candidates t vs := rfl
theorem possible_iff {t : Nat} {vs : List Int} {v : Int} : possible t vs v = true ↔ vs.length - vs.count v ≤ t := by unfold possible; simp
theorem candTill_mem {t : Nat} {vs pre : List Int} {v : Int} : v ∈ candTill t vs pre ↔ v ∈ pre ∧ vs.length - vs.count v ≤ t := by
  unfold candTill
  rw [List.mem_filter, kinds_mem, possible_iff]
theorem candTill_snoc {t : Nat} {vs pre : List Int} {a : Int} : candTill t vs (pre ++ [a]) = if a ∉ candTill t vs pre ∧ vs.length - vs.count a ≤ t then candTill t vs pre ++ [a] else candTill t vs pre := by
  have m := candTill_mem (t := t) (vs := vs) (pre := pre) (v := a)
  unfold candTill at m ⊢
  rw [kinds_snoc]
  by_cases h : a ∈ pre
  · rw [if_pos h]
    by_cases c : vs.length - vs.count a ≤ t
    · rw [if_neg (fun z => z.1 (m.mpr ⟨h, c⟩))]
    · rw [if_neg (fun z => c z.2)]
  · rw [if_neg h, List.filter_append]
    by_cases c : vs.length - vs.count a ≤ t
    · rw [if_pos ⟨fun z => h (m.mp z).1, c⟩]
      have : possible t vs a = true := possible_iff.mpr c
      simp [this]
    · rw [if_neg (fun z => c z.2)]
      have : possible t vs a = false := Bool.eq_false_iff.mpr fun z => c (possible_iff.mp z)
      simp [this]
theorem candidates_le (t : Nat) (vs : List Int) : (candidates t vs).length ≤ vs.length := Nat.le_trans (List.length_filter_le ..) (kinds_le vs)
theorem verdict_eq (t : Nat) (vs : List Int) : verdict t vs = if vs.length ≤ t then 0 else if (candidates t vs).length = 0 then 2 else if (candidates t vs).length = 1 then 1 else 0 := by
  unfold verdict unseen
  dsimp only
  by_cases c : vs.length ≤ t
  · rw [if_pos (by simpa using c), if_pos c]
  · rw [if_neg (by simpa using c), if_neg c]
    match candidates t vs with
    | [] => rfl
    | [_] => rfl
    | _ :: _ :: _ => rfl
def votesOk (t : Int) (l : List Int) : Prop := 0 ≤ t ∧ t ≤ 10 ∧ (l.all fun n => isBetween n (-1000000000) 1000000000) = true
theorem judge_in {s : State} {t : Int} {l : List Int} (h30 : l.length ≤ 30) : inRange s (.judge t l) = true ↔ votesOk t l := by
  show (isBetween t 0 10 && (decide (l.length ≤ 30) && l.all fun n => isBetween n (-1000000000) 1000000000)) = true ↔ _
  rw [Bool.and_eq_true, Bool.and_eq_true, decide_eq_true_eq]
  unfold isBetween votesOk
  rw [Bool.and_eq_true, decide_eq_true_eq, decide_eq_true_eq]
  constructor
  · rintro ⟨⟨a, b⟩, _, c⟩; exact ⟨a, b, c⟩
  · rintro ⟨a, b, c⟩; exact ⟨⟨a, b⟩, h30, c⟩
theorem step_judge_no {s : State} {t : Int} {l : List Int} (h30 : l.length ≤ 30) (h : ¬ votesOk t l) : step s [[14, t], l] = (s, [-1]) := by
  show (if inRange s (.judge t l) = false then (s, [-1]) else act s (.judge t l)) = _
  rw [if_pos (Bool.eq_false_iff.mpr fun z => h ((judge_in h30).mp z))]
theorem step_judge {s : State} {t : Nat} {l : List Int} (h30 : l.length ≤ 30) (h : votesOk t l) : step s [[14, (t : Int)], l] = (s, [(verdict t l : Int), if l.length ≤ t then 1 else 0, ((candidates t l).length : Int)] ++ candidates t l) := by
  show (if inRange s (.judge t l) = false then (s, [-1]) else (s, [(verdict t l : Int), if unseen t l = true then 1 else 0, ((candidates t l).length : Int)] ++ candidates t l)) = _
  rw [if_neg (by rw [(judge_in h30).mpr h]; exact Bool.noConfusion)]
  unfold unseen
  by_cases c : l.length ≤ t
  · rw [if_pos c, if_pos (by simpa using c)]
  · rw [if_neg c, if_neg (by simpa using c)]
theorem step_more_no {s : State} {t : Int} {l : List Int} (h30 : l.length ≤ 30) (h : ¬ votesOk t l) : step s [[15, t], l] = (s, [-1]) := by
  show (if inRange s (.judge t l) = false then (s, [-1]) else act s (.more t l)) = _
  rw [if_pos (Bool.eq_false_iff.mpr fun z => h ((judge_in h30).mp z))]
theorem step_more {s : State} {t : Nat} {l : List Int} (h30 : l.length ≤ 30) (h : votesOk t l) : step s [[15, (t : Int)], l] = (s, match atBest t l with
      | none => [0]
      | some k => [1, (k : Int), (atWorst t l : Int)]) := by
  show (if inRange s (.judge t l) = false then (s, [-1]) else (s, match atBest t l with
      | none => [0]
      | some k => [1, (k : Int), (atWorst t l : Int)])) = _
  rw [if_neg (by rw [(judge_in h30).mpr h]; exact Bool.noConfusion)]
/-- by the two greatest counts -/
theorem step_more_top {s : State} {t : Nat} {l : List Int} (h30 : l.length ≤ 30) (h : votesOk t l) {c1 c2 : Nat} {r : List Nat} (T : Top2 l c1 c2 r) :
    step s [[15, (t : Int)], l] = (s, if l.length - c1 ≤ t then [1, ((t + 1 + c2 - l.length : Nat) : Int), ((if l.length - c2 ≤ t then 2 * t + 1 + c1 + c2 - 2 * l.length else 0 : Nat) : Int)] else [0]) := by
  rw [step_more h30 h, best_is T, worst_is T]
  by_cases c : l.length - c1 ≤ t
  · rw [if_pos c, if_pos c]
  · rw [if_neg c, if_neg c]
theorem top2_down {vs : List Int} {c1 c2 : Nat} {r : List Nat} (p : (0 :: 0 :: counts vs).Perm (c1 :: c2 :: r)) (h : (c1 :: c2 :: r).Pairwise (· ≥ ·)) : Top2 vs c1 c2 r := by
  rw [List.pairwise_cons, List.pairwise_cons] at h
  exact ⟨p, h.1 c2 (List.mem_cons_self ..), h.2.1⟩
theorem top2_up {vs : List Int} {c1 c2 : Nat} {r : List Nat} (p : (0 :: 0 :: counts vs).Perm (r ++ [c2, c1])) (h : (r ++ [c2, c1]).Pairwise (· ≤ ·)) : Top2 vs c1 c2 r := by
  rw [List.pairwise_append] at h
  have h2 := h.2.1
  rw [List.pairwise_cons] at h2
  refine ⟨p.trans ?_, h2.1 c1 (List.mem_cons_self ..), fun x hx => h.2.2 x hx c2 (List.mem_cons_self ..)⟩
  exact List.perm_append_comm.trans (List.Perm.swap c1 c2 r)
/-! ### a table of counts, as a loop makes it -/
def tab (pre : List Int) : List (Int × Nat) := (kinds pre).map fun v => (v, pre.count v)
theorem tab_new {pre : List Int} {a : Int} (h : a ∉ pre) : tab (pre ++ [a]) = tab pre ++ [(a, 1)] := by
  unfold tab
  rw [kinds_snoc, if_neg h, List.map_append]
  congr 1
  · refine List.map_congr_left fun v hv => ?_
    have : v ≠ a := fun z => h (by rw [← z]; exact kinds_mem.mp hv)
    rw [List.count_append, List.count_singleton]
    have e : (a == v) = false := by simpa using fun z : a = v => this z.symm
    rw [e]
    simp
  · simp [List.count_eq_zero_of_not_mem h]
theorem tab_old {pre : List Int} {a : Int} (h : a ∈ pre) : tab (pre ++ [a]) = (tab pre).map fun x => if x.1 = a then (a, pre.count a + 1) else x := by
  unfold tab
  rw [kinds_snoc, if_pos h, List.map_map]
  refine List.map_congr_left fun v _ => ?_
  rw [List.count_append, List.count_singleton]
  by_cases c : v = a
  · subst c
    simp
  · have e : (a == v) = false := by simpa using fun z : a = v => c z.symm
    rw [e]
    simp [c]
theorem tab_counts (vs : List Int) : (tab vs).map (fun x => x.2) = counts vs := by
  unfold tab counts
  rw [List.map_map]
  rfl
/-! ### swap -/
def swapped (o : List Nat) (k : Nat) : List Nat := o.take k ++ ([o.getD (k + 1) 0, o.getD k 0] ++ o.drop (k + 2))
theorem split2 {o : List Nat} {k : Nat} (h : k + 1 < o.length) : o = o.take k ++ ([o.getD k 0, o.getD (k + 1) 0] ++ o.drop (k + 2)) := by
  have h1 := List.take_append_drop k o
  rw [List.drop_eq_getElem_cons (by omega), List.drop_eq_getElem_cons h] at h1
  have g1 : o.getD k 0 = o[k] := by rw [List.getD_eq_getElem?_getD, List.getElem?_eq_getElem (by omega)]; rfl
  have g2 : o.getD (k + 1) 0 = o[k + 1] := by rw [List.getD_eq_getElem?_getD, List.getElem?_eq_getElem h]; rfl
  rw [g1, g2]
  exact h1.symm
theorem swapped_perm {o : List Nat} {k : Nat} (h : k + 1 < o.length) : (swapped o k).Perm o := by
  refine List.Perm.trans ?_ (.of_eq (split2 h).symm)
  unfold swapped
  refine .append_left _ ?_
  exact List.Perm.swap _ _ _
theorem swapped_set {o : List Nat} {k : Nat} (h : k + 1 < o.length) : swapped o k = (o.set k (o.getD (k + 1) 0)).set (k + 1) (o.getD k 0) := by
  generalize hx : o.getD (k + 1) 0 = x
  generalize hy : o.getD k 0 = y
  unfold swapped
  rw [hx, hy]
  refine List.ext_getElem? fun i => ?_
  have hk : (o.take k).length = k := by rw [List.length_take]; omega
  by_cases c1 : i < k
  · rw [List.getElem?_append_left (by omega), List.getElem?_take, if_pos c1, List.getElem?_set, if_neg (by omega), List.getElem?_set, if_neg (by omega)]
  · rw [List.getElem?_append_right (by omega), hk]
    by_cases c2 : i = k
    · subst c2
      rw [Nat.sub_self, List.getElem?_set, if_neg (by omega), List.getElem?_set, if_pos rfl, if_pos (by omega)]
      rfl
    · by_cases c3 : i = k + 1
      · subst c3
        have e : k + 1 - k = 1 := by omega
        rw [e, List.getElem?_set, if_pos rfl, if_pos (by rw [List.length_set]; exact h)]
        rfl
      · rw [List.getElem?_append_right (by show 2 ≤ i - k; omega), List.getElem?_drop, List.getElem?_set, if_neg (by omega), List.getElem?_set, if_neg (by omega)]
        congr 1
        show k + 2 + (i - k - 2) = i
        omega
theorem step_swap_no {s : State} {i : Int} (h : ¬ ∃ k : Nat, i = k ∧ k + 1 < s.order.length) : step s [[17, i]] = (s, [-1]) := by
  show (if isBetween i 0 ((s.order.length : Int) - 2) = false then (s, [-1]) else act s (.swap i)) = _
  rw [if_pos]
  refine Bool.eq_false_iff.mpr fun z => h ?_
  unfold isBetween at z
  rw [Bool.and_eq_true, decide_eq_true_eq, decide_eq_true_eq] at z
  exact ⟨i.toNat, by omega, by omega⟩
theorem step_swap {s : State} {k : Nat} (h : k + 1 < s.order.length) : step s [[17, (k : Int)]] = (s, VbceCore.ints [(clockNow s (swapped s.order k)).one, (clockNow s (swapped s.order k)).two]) := by
  show (if isBetween (k : Int) 0 ((s.order.length : Int) - 2) = false then (s, [-1]) else act s (.swap k)) = _
  rw [if_neg]
  · rfl
  · have : isBetween (k : Int) 0 ((s.order.length : Int) - 2) = true := by
      unfold isBetween
      rw [Bool.and_eq_true, decide_eq_true_eq, decide_eq_true_eq]
      omega
    rw [this]
    exact Bool.noConfusion
/-! ### books, clear -/
theorem step_books (s : State) : step s [[18]] = (s, (s.books.length : Int) :: s.books.flatMap fun b => (b.length : Int) :: VbceCore.ints (b.flatMap fun x => [x.first, x.second])) := rfl
theorem step_clear (s : State) : step s [[19]] = (start, [0]) := rfl
end Rm

set_option Elab.async false
set_option linter.all false
set_option maxRecDepth 100000
set_option maxHeartbeats 4000000
/-! Walks over a dict with tuple keys: its items by a name, its values. -/
namespace Rx
open PySem PySem.Spec PySem.W PySem.Calls PyProof.Rows PyProof.V L2
/-- the items' iterator: nothing is out, or the pair at a was handed out -/
def ItSt (h : Heap) (it d : Addr) (i n ep : Nat) : Prop := (∃ ok ov, IsItemIter h it d i n ep ok ov) ∨ ∃ ok ov a f, KdxIt h it d i n ep ok ov a f
theorem alive_any {prog : Program} {w : World} {A : Around} {E : Value → Shared → Prop} {s : Shared} {a : Addr} {Q : Option Obj → Shared → Prop} (h : Q (s.heap.get? a) s) : wpAny (model prog w) A (loadIfAlive a) Q E s := fun _ _ _ => h
section
variable {prog : Program} {w : World} {A : Around} {E : Value → Shared → Prop} {s : Shared}
theorem next_out {it d a : Addr} {f : Bool} {i ep : Nat} {es : Array DictEntry} {ok ov : Value} {Q : Option Value → Shared → Prop} (hit : KdxIt s.heap it d i es.size ep ok ov a f)
    (hm : s.heap.DictRaw d es ep) (hi : i < es.size)
    (hQ : ∀ h', ItSt h' it d (i + 1) es.size ep → h'.get? s.heap.objs.size = some { cls := .type "tuple", data := .seq #[es[i].key, es[i].val] } → h'.objs.size = s.heap.objs.size + 1 →
      (∀ b o, b ≠ it → s.heap.get? b = some o → h'.get? b = some o) → Q (some (.ref s.heap.objs.size)) { s with heap := h' }) :
    wpAny (model prog w) A (pyNext (.ref it)) Q E s := by
  obtain ⟨hp, g, dr, tk, os⟩ := s
  obtain ⟨od, hod, hcd, hdd⟩ := id hm
  have ty0 : Shared.TypeIs ⟨hp, g, dr, tk, os⟩ (.ref it) "dict_itemiterator" := ⟨_, hit, rfl⟩
  unfold pyNext
  refine wpAny_bind (wpAny_attempt (wpAny_callSpecial?_slot (name := Str.ofString "__next__") ty0 PySem.F.slot_dict_itemiterator_next
    (wpAny_call_entry PySem.F.slot_dict_itemiterator_next ty0 PySem.F.entry_dict_itemiterator_next ?_ (PySem.F.args_dict_itemiterator_next_1 _))))
  refine wpAny_bind (wpAny_pure (wpAny_bind (wpAny_bind ?_)))
  first | refine wpAny_bind (wpAny_typeNameOfWhole_itemiter ty0 (wpAny_pure ?_)) | refine wpAny_bind (wpAny_typeNameOf_itemiter ty0 (wpAny_pure ?_))
  refine wpAny_bind (wpAny_fieldsOf hit rfl ?_)
  have own : Builtin.Dict_items.ownsTuple "dict_itemiterator" = true := by decide
  simp only [own, if_true]
  show wpAny _ _ (if (Value.ref d == Value.none) = true then _ else _) _ _ _
  rw [if_neg (show ¬ ((Value.ref d == Value.none) = true) from Bool.false_ne_true)]
  refine wpAny_bind (wpAny_pure (wpAny_bind (wpAny_dictEntries hod hdd ?_)))
  rw [if_neg (by simp)]
  refine wpAny_bind (wpAny_pure (wpAny_bind (wpAny_dictEpoch hod hdd ?_)))
  rw [if_neg (by simp)]
  refine wpAny_pure ?_
  simp only [show ¬ ((i : Int) < 0) from by omega, if_false, Int.toNat_natCast, Array.getElem?_eq_getElem hi]
  refine wpAny_bind ?_
  first | refine wpAny_bind (wpAny_typeNameOfWhole_itemiter ty0 (wpAny_pure ?_)) | refine wpAny_bind (wpAny_typeNameOf_itemiter ty0 (wpAny_pure ?_))
  refine wpAny_bind (wpAny_isOneOf_itemiter ty0 ?_)
  show wpAny _ _ (setField (.ref it) 3 (rawInt ((i : Int) + 1)) >>= _) _ _ ⟨hp, g, dr, tk, os⟩
  refine wpAny_bind (wpAny_setField_rec hit (by simp) fun g1 x1 y1 => ?_)
  replace y1 : Heap.SameBut it hp g1 := y1
  replace x1 : KdxIt g1 it d (i + 1) es.size ep ok ov a f := by
    have e : ((i + 1 : Nat) : Int) = (i : Int) + 1 := by omega
    unfold KdxIt; rw [e]; simpa [rawInt] using x1
  have ty1 : Shared.TypeIs ⟨g1, g, dr, tk, os⟩ (.ref it) "dict_itemiterator" := ⟨_, x1, rfl⟩
  refine wpAny_bind (wpAny_holding (wpAny_bind (wpAny_isOneOf_itemiter ty1 (wpAny_bind (wpAny_isOneOf_itemiter ty1 ?_)))))
  show wpAny _ _ (Builtin.Dict_items.pairFromOwner (.ref it) 6 es[i].key es[i].val) _ _ ⟨g1, g, dr, tk, os⟩
  unfold Builtin.Dict_items.pairFromOwner
  refine wpAny_bind (wpAny_newTuple ?_)
  have x2 : KdxIt (g1.push { cls := .type "tuple", data := .seq #[es[i].key, es[i].val] }) it d (i + 1) es.size ep ok ov a f := Heap.get?_push_of_some _ x1
  have z1 : g1.objs.size = hp.objs.size := y1.1
  have lt : it < hp.objs.size := Heap.lt_size hit
  have t2 : (g1.push { cls := .type "tuple", data := .seq #[es[i].key, es[i].val] }).get? hp.objs.size = some { cls := .type "tuple", data := .seq #[es[i].key, es[i].val] } := by
    rw [← z1]
    exact Heap.get?_push_size _ rfl
  have z2 : (g1.push { cls := .type "tuple", data := .seq #[es[i].key, es[i].val] }).objs.size = hp.objs.size + 1 := by rw [Heap.size_push, z1]
  have k2 : ∀ b o, b ≠ it → hp.get? b = some o → (g1.push { cls := .type "tuple", data := .seq #[es[i].key, es[i].val] }).get? b = some o := fun b o hb e => Heap.get?_push_of_some _ (y1.extBut b o hb e)
  show wpAny _ _ (Builtin.Dict_items.ownedTupleIsFree (.ref it) >>= _) _ _ ⟨g1.push { cls := .type "tuple", data := .seq #[es[i].key, es[i].val] }, g, dr, tk, os⟩
  rw [z1]
  generalize g1.push { cls := .type "tuple", data := .seq #[es[i].key, es[i].val] } = g2 at x2 t2 z2 k2 ⊢
  have fin : ∀ g3 : Heap, ItSt g3 it d (i + 1) es.size ep → Heap.SameBut it g2 g3 → Q (some (.ref hp.objs.size)) ⟨g3, g, dr, tk, os⟩ := fun g3 x3 y3 =>
    hQ g3 x3 (y3.extBut _ _ (Nat.ne_of_gt lt) t2) (by show g3.objs.size = hp.objs.size + 1; rw [y3.1, z2]) fun b o hb e => y3.extBut b o hb (k2 b o hb e)
  clear x1 y1 ty1 z1 g1
  refine wpAny_bind ?_
  unfold Builtin.Dict_items.ownedTupleIsFree
  refine wpAny_bind (wpAny_field x2 rfl (x := rawInt a) rfl ?_)
  show wpAny _ _ (loadIfAlive ((a : Int).toNat) >>= _) _ _ _
  rw [Int.toNat_natCast]
  refine wpAny_bind (alive_any ?_)
  show wpAny _ _ _ _ _ (⟨g2, g, dr, tk, os⟩ : Shared)
  cases hal : Heap.get? g2 a with
  | none =>
    simp only [Option.isNone_none, if_true]
    refine wpAny_pure ?_
    refine wpAny_bind (wpAny_field x2 rfl (x := ok) rfl (wpAny_bind (wpAny_field x2 rfl (x := ov) rfl ?_)))
    refine wpAny_bind (wpAny_setField_rec x2 (by simp) fun g3 x3 y3 => ?_)
    replace y3 : Heap.SameBut it g2 g3 := y3
    replace x3 : KdxIt g3 it d (i + 1) es.size ep es[i].key ov a f := x3
    refine wpAny_bind (wpAny_setField_rec x3 (by simp) fun g4 x4 y4 => ?_)
    replace y4 : Heap.SameBut it g3 g4 := y4
    replace x4 : KdxIt g4 it d (i + 1) es.size ep es[i].key es[i].val a f := x4
    refine wpAny_bind (wpAny_setField_rec x4 (by simp) fun g5 x5 y5 => ?_)
    replace y5 : Heap.SameBut it g4 g5 := y5
    replace x5 : KdxIt g5 it d (i + 1) es.size ep es[i].key es[i].val hp.objs.size f := x5
    refine wpAny_bind (wpAny_setField_rec x5 (by simp) fun g6 x6 y6 => ?_)
    replace y6 : Heap.SameBut it g5 g6 := y6
    replace x6 : KdxIt g6 it d (i + 1) es.size ep es[i].key es[i].val hp.objs.size false := x6
    refine wpAny_bind (wpAny_letGo (wpAny_pure (wpAny_pure ⟨_, rfl, wpAny_pure (fin g6 (.inr ⟨_, _, _, _, x6⟩) (y3.trans (y4.trans (y5.trans y6))))⟩)))
  | some oa =>
    simp only [Option.isNone_some, Bool.false_eq_true, if_false]
    refine wpAny_bind (wpAny_field x2 rfl (x := .bool f) rfl ?_)
    cases f with
    | true =>
      rw [if_neg (show ¬ ((Value.bool true != Value.bool true) = true) from Bool.false_ne_true)]
      refine wpAny_pure ?_
      simp only [Bool.false_eq_true, if_false]
      exact wpAny_pure (wpAny_pure ⟨_, rfl, wpAny_pure (fin g2 (.inr ⟨_, _, _, _, x2⟩) (Heap.SameBut.refl _ _))⟩)
    | false =>
      rw [if_pos (show (Value.bool false != Value.bool true) = true from rfl)]
      refine wpAny_bind (wpAny_setField_rec x2 (by simp) fun g3 x3 y3 => ?_)
      replace x3 : KdxIt g3 it d (i + 1) es.size ep ok ov a true := x3
      refine wpAny_pure ?_
      simp only [Bool.false_eq_true, if_false]
      exact wpAny_pure (wpAny_pure ⟨_, rfl, wpAny_pure (fin g3 (.inr ⟨_, _, _, _, x3⟩) y3)⟩)
theorem next_any {it d : Addr} {i ep : Nat} {es : Array DictEntry} {Q : Option Value → Shared → Prop} (hit : ItSt s.heap it d i es.size ep)
    (hm : s.heap.DictRaw d es ep) (hi : i < es.size)
    (hQ : ∀ h', ItSt h' it d (i + 1) es.size ep → h'.get? s.heap.objs.size = some { cls := .type "tuple", data := .seq #[es[i].key, es[i].val] } → h'.objs.size = s.heap.objs.size + 1 →
      (∀ b o, b ≠ it → s.heap.get? b = some o → h'.get? b = some o) → Q (some (.ref s.heap.objs.size)) { s with heap := h' }) :
    wpAny (model prog w) A (pyNext (.ref it)) Q E s := by
  rcases hit with ⟨ok, ov, x⟩ | ⟨ok, ov, a, f, x⟩
  · exact wpAny_pyNext_items_item_raw x hm hi fun h' a b c d => hQ h' (.inr ⟨_, _, _, _, a⟩) b c d
  · exact next_out x hm hi hQ
theorem done_any {it d : Addr} {i ep : Nat} {es : Array DictEntry} {Q : Option Value → Shared → Prop} (hh : A.handled = none) (hit : ItSt s.heap it d i es.size ep) (hm : s.heap.DictRaw d es ep) (hge : es.size ≤ i)
    (hQ : ∀ h', Heap.ExtBut it s.heap h' → Q none { s with heap := h' }) : wpAny (model prog w) A (pyNext (.ref it)) Q E s := by
  rcases hit with ⟨ok, ov, x⟩ | ⟨ok, ov, a, f, x⟩
  · exact wpAny_pyNext_items_end_raw hh x hm hge hQ
  · exact wpAny_pyNext_items_end_out_raw hh x hm hge hQ
end
/-! ### what the walks yield -/
/-- what a locked dict with tuple keys has at a place -/
theorem frzTv {X : Cx} {pins : List (Addr × Obj)} {σ : L2.St} {H : Hp} {s : Shared} {d : Addr} {o : Obj} {kvs : List (List L2.Key × V)} (I : Inv X pins σ H s) (h : H d = some (.frz o (.dT kvs))) :
    (d == sysModules) = false ∧ s.heap.get? d = some o ∧ o.ExactDict ∧ ∃ (es : Array DictEntry) (ep : Nat), o.data = .dict es ep ∧ es.size = kvs.length ∧
      ∀ (i : Nat) (hi : i < es.size) (k : List L2.Key) (v : V), kvs[i]? = some (k, v) → ∃ q : Addr, es[i].key = .ref q ∧ H q = some (.tup (k.map kV)) ∧ RelV v es[i].val := by
  obtain ⟨hd, z, hs, xs, pr, o', es, ep, ho, hx, hdt, he, nd⟩ := I.hok d _ h
  have eo : o' = o := Option.some.inj (ho.symm.trans hd)
  rw [eo] at hx hdt
  refine ⟨hs, hd, hx, es, ep, hdt, ?_, fun i hi k v e => ?_⟩
  · have a1 : es.size = xs.length := size_of_entries he
    rw [a1]
    exact (Paired.length pr).symm
  · obtain ⟨b, hb, g1, g2, g3⟩ := L2.paired_get pr e
    have q := entry_at he i
    rw [hb, Array.getElem?_eq_getElem hi] at q
    have q' := Option.some.inj q
    rw [q']
    exact ⟨b.2.1, rfl, g2, g3⟩
/-- the pairs (key's tuple, value) of the locked dict, each a new tuple that stays -/
def ItP (d : Addr) (o : Obj) (kvs : List (List L2.Key × V)) : It where
  go := fun i H => H d = some (.frz o (.dT kvs)) ∧ i < kvs.length
  yld := fun i H x H' => ∃ (T q : Addr) (k : List L2.Key) (v : V), kvs[i]? = some (k, v) ∧ x = .ref T ∧ H T = none ∧ H q = some (.tup (k.map kV)) ∧ H' = upd H T (.tup [.ref q, v])
  stop := fun i H => H d = some (.frz o (.dT kvs)) ∧ kvs.length ≤ i
/-- the values of the locked dict -/
def ItW (d : Addr) (o : Obj) (kvs : List (List L2.Key × V)) : It where
  go := fun i H => H d = some (.frz o (.dT kvs)) ∧ i < kvs.length
  yld := fun i H x H' => H' = H ∧ ∃ k, kvs[i]? = some (k, x)
  stop := fun i H => H d = some (.frz o (.dT kvs)) ∧ kvs.length ≤ i
section
variable {P : Program} {w : World} {K : PySem.W.Frag} {d : Addr} {o : Obj} {es : Array DictEntry} {ep : Nat}
theorem turnP {kvs : List (List L2.Key × V)} {nm : Str} {tpos : Pos} (it : Addr) (hod : o.data = .dict es ep) :
    Turn P w K (.Name nm tpos) (ItP d o kvs) [it] it (fun i h => ItSt h it d i kvs.length ep) where
  mem := List.mem_singleton.mpr rfl
  obj := fun i h st b hb => by
    rw [List.mem_singleton] at hb
    subst hb
    rcases st with ⟨ok, ov, e⟩ | ⟨ok, ov, a, f, e⟩
    · exact ⟨_, e, fun v z => (nomatch z)⟩
    · exact ⟨_, e, fun v z => (nomatch z)⟩
  keep := fun i h h' st k => by
    rcases st with ⟨ok, ov, e⟩ | ⟨ok, ov, a, f, e⟩
    · exact .inl ⟨ok, ov, k it (List.mem_singleton.mpr rfl) _ e⟩
    · exact .inr ⟨ok, ov, a, f, k it (List.mem_singleton.mpr rfl) _ e⟩
  item := by
    intro X hP hw hK hc i pins s σ H E I hf st hg
    subst hP hw hK
    obtain ⟨hd, hi⟩ := hg
    obtain ⟨hs, hgd, hx, es', ep', hdt, hsz, ent⟩ := frzTv I hd
    obtain ⟨rfl, rfl⟩ := dict_ep hod hdt
    have hi' : i < es'.size := by omega
    obtain ⟨q, hk, hq, rv⟩ := ent i hi' kvs[i].1 kvs[i].2 (List.getElem?_eq_getElem hi)
    rw [← hsz] at st
    have hlt : it < s.heap.objs.size := by
      rcases st with ⟨ok, ov, e⟩ | ⟨ok, ov, a, f, e⟩ <;> exact Heap.lt_size e
    refine next_any st ⟨o, hgd, hx, hdt⟩ hi' fun h' st' hT hz hk' => ?_
    refine ⟨_, rfl, wpAny_pure ?_⟩
    have new : ObjOk X.prog X.w (upd H s.heap.objs.size (.tup [.ref q, kvs[i].2])) h' s.heap.objs.size (.tup [.ref q, kvs[i].2]) :=
      ⟨by show 2 ≤ sizeLine; decide, [es'[i].key, es'[i].val], .cons hk (.cons rv .nil), ⟨_, hT, rfl, _, rfl⟩⟩
    have I1 : Inv X pins σ (upd H s.heap.objs.size (.tup [.ref q, kvs[i].2])) { s with heap := h' } :=
      I.turnedNew (t' := s.toks) (ch := [it]) (fun b ob hb e => hk' b ob (fun z => hb (List.mem_singleton.mpr z)) e) hf (Nat.le_refl _) new
    refine ⟨.ref s.heap.objs.size, _, I1, rfl, ⟨_, q, kvs[i].1, kvs[i].2, List.getElem?_eq_getElem hi, rfl, I.hok.fresh (Nat.le_refl _), hq, rfl⟩, ?_, fun b hb => ?_⟩
    · rw [← hsz]; exact st'
    · rw [List.mem_singleton] at hb
      rw [hb, upd_ne (Nat.ne_of_lt hlt)]
      exact (hf it (List.mem_singleton.mpr rfl)).1
  done := by
    intro X hP hw hK hc i pins s σ H E I hf st hg
    subst hP hw hK
    obtain ⟨hd, hi⟩ := hg
    obtain ⟨f0, f1, f2, f3, f4, f5⟩ := hf it (List.mem_singleton.mpr rfl)
    obtain ⟨hs, hgd, hx, es', ep', hdt, hsz, ent⟩ := frzTv I hd
    obtain ⟨rfl, rfl⟩ := dict_ep hod hdt
    rw [← hsz] at st
    exact done_any (I.ok.hd hc) st ⟨o, hgd, hx, hdt⟩ (by omega) fun h' eb => ⟨rfl, I.turned (t' := s.toks) (fun b ob hb e => eb b ob hb e) f0 f1 f3 f4 f5⟩
  self := fun A i s Q E st h => by
    have ty : s.TypeIs (.ref it) "dict_itemiterator" := by
      rcases st with ⟨ok, ov, e⟩ | ⟨ok, ov, a, f, e⟩ <;> exact ⟨_, e, rfl⟩
    refine wpAny_pyIter_slot ty PySem.F.slot_dict_itemiterator_iter (wpAny_call_entry PySem.F.slot_dict_itemiterator_iter ty entry_dict_itemiterator_iter ?_ (PySem.F.args_dict_itemiterator_iter_1 _))
    show wpAny _ _ (ret (.ref it)) _ _ s
    exact wpAny_pure ⟨_, rfl, "dict_itemiterator", _, ty, PySem.F.slot_dict_itemiterator_next.lookup, h⟩
theorem turnW {kvs : List (List L2.Key × V)} {tg : Expr} (it : Addr) (hod : o.data = .dict es ep) :
    Turn P w K tg (ItW d o kvs) [it] it (fun i h => h.IsValIter it d i kvs.length ep) where
  mem := List.mem_singleton.mpr rfl
  obj := fun i h st b hb => by
    rw [List.mem_singleton] at hb
    subst hb
    obtain ⟨oi, e, c, dd⟩ := st
    exact ⟨oi, e, fun v z => by rw [dd] at z; cases z⟩
  keep := fun i h h' st k => st.at fun oi e => k it (List.mem_singleton.mpr rfl) oi e
  item := by
    intro X hP hw hK hc i pins s σ H E I hf st hg
    subst hP hw hK
    obtain ⟨hd, hi⟩ := hg
    obtain ⟨f0, f1, f2, f3, f4, f5⟩ := hf it (List.mem_singleton.mpr rfl)
    obtain ⟨hs, hgd, hx, es', ep', hdt, hsz, ent⟩ := frzTv I hd
    obtain ⟨rfl, rfl⟩ := dict_ep hod hdt
    have hi' : i < es'.size := by omega
    obtain ⟨q, hk, hq, rv⟩ := ent i hi' kvs[i].1 kvs[i].2 (List.getElem?_eq_getElem hi)
    rw [← hsz] at st
    refine wpAny_pyNext_values_item_raw st ⟨o, hgd, hx, hdt⟩ hi' fun h' st' sb => ?_
    have I1 : Inv X pins σ H { s with heap := h' } := I.turned (t' := s.toks) (fun b ob hb e => (sb.2 b hb).trans e) f0 f1 f3 f4 f5
    obtain ⟨oi, e, c, dd⟩ := id st'
    refine ⟨_, rfl, go_of (s := { s with heap := h' }) e c dd (by decide) ⟨kvs[i].2, H, I1, rv, ⟨rfl, kvs[i].1, List.getElem?_eq_getElem hi⟩, ?_, fun b hb => (hf b hb).1⟩⟩
    show h'.IsValIter it d (i + 1) kvs.length _
    rw [← hsz]
    exact st'
  done := by
    intro X hP hw hK hc i pins s σ H E I hf st hg
    subst hP hw hK
    obtain ⟨hd, hi⟩ := hg
    obtain ⟨f0, f1, f2, f3, f4, f5⟩ := hf it (List.mem_singleton.mpr rfl)
    obtain ⟨hs, hgd, hx, es', ep', hdt, hsz, ent⟩ := frzTv I hd
    obtain ⟨rfl, rfl⟩ := dict_ep hod hdt
    rw [← hsz] at st
    exact wpAny_pyNext_values_end_raw (I.ok.hd hc) st ⟨o, hgd, hx, hdt⟩ (by omega) fun h' eb => ⟨rfl, I.turned (t' := s.toks) (fun b ob hb e => eb b ob hb e) f0 f1 f3 f4 f5⟩
  self := fun A i s Q E st h => wpAny_pyIter_valiter st h
end
def iItemsT (td : TE) : TI := fun σ H R => td σ H fun x H1 => ∃ d o kvs, x = .ref d ∧ H1 d = some (.frz o (.dT kvs)) ∧ R (ItP d o kvs) H1
def iValsT (td : TE) : TI := fun σ H R => td σ H fun x H1 => ∃ d o kvs, x = .ref d ∧ H1 d = some (.frz o (.dT kvs)) ∧ R (ItW d o kvs) H1
section
variable {X : Cx} {tg e : Expr} {td : TE} {apos cpos : Pos}
theorem pi_itemsT {nm : Str} {tpos : Pos} (he : PE X e td) (hbase : attributeBase e "items" X.env (eval e X.env) = eval e X.env := by rfl) (hline : (apos.endLine == cpos.line) = true := by rfl) :
    PI X (.Name nm tpos) (.Call (.Attribute e "items" apos) [] [] cpos) (iItemsT td) := by
  refine ⟨fun pins s σ H R I h => ?_⟩
  refine wpAny_Call_method (T := "dict") (id := "dict.items") hbase rfl hline PySem.F.plainAttrs_dict PySem.F.slot_dict_items PySem.F.type_dict_items (thn (he.run pins s σ H _ I h) fun u s1 ⟨x, H1, I1, rx, d, o, kvs, ex, hd, q⟩ => ?_)
  subst ex
  obtain rfl : u = Value.ref d := rx
  obtain ⟨hs, hgd, hx, es, ep, hdt, hsz, ent⟩ := frzTv I1 hd
  have raw : s1.heap.DictRaw d es ep := ⟨o, hgd, hx, hdt⟩
  refine ⟨raw.typeIs, fun a ea => ?_, ?_⟩
  · cases ea
    exact ⟨o, hgd, hx.2.1⟩
  have I2 : Inv X pins σ H1 { s1 with heap := s1.heap.push { cls := .type "dict_items", data := .fields #[.ref d] } } := I1.kept (t' := s1.toks) fun b ob q => Heap.get?_push_of_some _ q
  have fin : wpAny (model X.prog X.w) X.A (pyIter (.ref s1.heap.objs.size)) (PIE X pins σ (.Name nm tpos) R) X.xe { s1 with heap := s1.heap.push { cls := .type "dict_items", data := .fields #[.ref d] } } := by
    refine wpAny_pyIter_items_raw (d := d) ⟨_, Heap.get?_push_size _ rfl, rfl, rfl⟩ (raw.at fun o' e => Heap.get?_push_of_some _ e) (pi_one (tk := s1.toks) I2 _ (turnP _ hdt) (.inl ⟨.none, .none, ?_⟩) q)
    rw [← hsz]
    exact Heap.get?_push_size _ rfl
  show wpAny _ _ (callWith cpos (.builtin "dict.items") [.ref d] [] []) _ X.xe s1
  exact method_meetsIn PySem.F.slot_dict_items PySem.F.entry_dict_items rfl (PySem.evalArgs_none ⟨rfl, raw.typeIs, PySem.F.args_dict_items_1 _, _, meets_dict_items_raw d hs, ⟨es, ep, raw⟩, fin⟩)
theorem pi_valsT (he : PE X e td) (hbase : attributeBase e "values" X.env (eval e X.env) = eval e X.env := by rfl) (hline : (apos.endLine == cpos.line) = true := by rfl) :
    PI X tg (.Call (.Attribute e "values" apos) [] [] cpos) (iValsT td) := by
  refine ⟨fun pins s σ H R I h => ?_⟩
  refine wpAny_Call_method (T := "dict") (id := "dict.values") hbase rfl hline PySem.F.plainAttrs_dict PySem.F.slot_dict_values PySem.F.type_dict_values (thn (he.run pins s σ H _ I h) fun u s1 ⟨x, H1, I1, rx, d, o, kvs, ex, hd, q⟩ => ?_)
  subst ex
  obtain rfl : u = Value.ref d := rx
  obtain ⟨hs, hgd, hx, es, ep, hdt, hsz, ent⟩ := frzTv I1 hd
  have raw : s1.heap.DictRaw d es ep := ⟨o, hgd, hx, hdt⟩
  refine ⟨raw.typeIs, fun a ea => ?_, ?_⟩
  · cases ea
    exact ⟨o, hgd, hx.2.1⟩
  have I2 : Inv X pins σ H1 { s1 with heap := s1.heap.push { cls := .type "dict_values", data := .fields #[.ref d] } } := I1.kept (t' := s1.toks) fun b ob q => Heap.get?_push_of_some _ q
  have fin : wpAny (model X.prog X.w) X.A (pyIter (.ref s1.heap.objs.size)) (PIE X pins σ tg R) X.xe { s1 with heap := s1.heap.push { cls := .type "dict_values", data := .fields #[.ref d] } } := by
    refine wpAny_pyIter_values_raw (d := d) ⟨_, Heap.get?_push_size _ rfl, rfl, rfl⟩ (raw.at fun o' e => Heap.get?_push_of_some _ e) (pi_one (tk := s1.toks) I2 _ (turnW _ hdt) ⟨_, Heap.get?_push_size _ rfl, rfl, ?_⟩ q)
    rw [← hsz] <;> rfl
  show wpAny _ _ (callWith cpos (.builtin "dict.values") [.ref d] [] []) _ X.xe s1
  exact method_meetsIn PySem.F.slot_dict_values PySem.F.entry_dict_values rfl (PySem.evalArgs_none ⟨rfl, raw.typeIs, PySem.F.args_dict_values_1 _, _, meets_dict_values_raw d hs, ⟨es, ep, raw⟩, fin⟩)
end
end Rx

set_option Elab.async false
set_option linter.all false
set_option maxRecDepth 100000
set_option maxHeartbeats 4000000
/-! A tuple times 0 or 1; the sum of a tuple; a list extended by a tuple. -/
namespace Rx
open PySem PySem.Spec PySem.W PyProof.Rows L2
theorem mul_one (l : Addr) (items : Array Value) (n : Nat) (dd : Option Addr) (sl : Array (Option Value)) (u : Tok) :
    Meets (Builtin.«tuple.__mul__» ⟨[.ref l, .int 1 u], []⟩) (fun _ R s => s.heap.get? l = some { cls := .type "tuple", dict := dd, data := .seq items n, slots := sl } ∧ R (.ok (.ret (Value.ref l))) s) :=
  .of_wp fun prog w A R s h => by
    obtain ⟨hp, g, d, tk, os⟩ := s
    obtain ⟨hl, h⟩ := h
    have f1 := AutoSeq1.idx_int
    wp_walk using wpAny_loadPart' hl
    exact ⟨_, rfl, h⟩
theorem mul_zero (l : Addr) (items : Array Value) (n : Nat) (dd : Option Addr) (sl : Array (Option Value)) (u : Tok) (hi : items.isEmpty = false) :
    Meets (Builtin.«tuple.__mul__» ⟨[.ref l, .int 0 u], []⟩) (fun _ R s => s.heap.get? l = some { cls := .type "tuple", dict := dd, data := .seq items n, slots := sl } ∧
      R (.ok (.ret (Value.ref s.heap.objs.size))) { s with heap := s.heap.push { cls := Value.type "tuple", data := Data.seq #[] }, toks := s.toks }) :=
  .of_wp fun prog w A R s h => by
    obtain ⟨hp, g, d, tk, os⟩ := s
    obtain ⟨hl, h⟩ := h
    have f1 := AutoSeq1.idx_int
    wp_walk using wpAny_loadPart' hl
    exact ⟨_, rfl, h⟩
theorem ext_tup (l : Addr) (items : Array Value) (n : Nat) (b : Addr) (items2 : Array Value) (n2 : Nat) (dd : Option Addr) (sl : Array (Option Value)) (hs0 : ¬(!items.isEmpty && Builtin.List.listTooLong (items.size + items2.size)) = true) (hs1 : items.size ≤ sizeLine) (hs2 : items.size + items2.size ≤ sizeLine + 1) :
    Meets (Builtin.«list.extend» ⟨[.ref l, .ref b], []⟩) (fun _ R s => s.heap.get? l = some { cls := .type "list", dict := none, data := .seq items n, slots := #[] } ∧ s.heap.get? b = some { cls := .type "tuple", dict := dd, data := .seq items2 n2, slots := sl } ∧ R (.ok (.ret Value.none)) { s with heap := s.heap.update l (Obj.mapSeq fun x => x ++ items2), toks := s.toks }) :=
  .of_wp fun prog w A R s h => by
    obtain ⟨hp, g, d, tk, os⟩ := s
    obtain ⟨hl, hb, h⟩ := h
    have f1 := AutoSeq1.idx_int
    have f2 := AutoSeq1.sub_tuple_tuple
    have f3 := AutoSeq1.sub_list_list
    have f4 := AutoSeq1.sub_tuple_list
    have f5 := AutoSeq1.sub_list_tuple
    have hz' : (items ++ items2).size ≤ sizeLine + 1 := by rw [Array.size_append]; exact hs2
    wp_walk using (wpAny_updateSeq hl rfl (hz := hs1) (_hz' := hz')), wpAny_loadPart' hl, wpAny_loadPart' hb
    exact ⟨_, rfl, h⟩
/-- (x, ..) * k, k from 0 on -/
def rTimes : R2 := fun x y H Q => ∃ (l : Addr) (k : Nat) (xs : List V), x = .ref l ∧ y = .int k ∧ H l = some (.tup xs) ∧ xs ≠ [] ∧ k ≤ 1000 ∧ xs.length ≤ 1000 ∧
  ∀ (p : Addr) (H' : Hp), Same H H' → H' p = some (.tup (List.replicate k xs).flatten) → Q (.ref p) H'
def rSumT (K : PySem.W.Frag) : List V → Hp → VK → Prop := fun vs H Q => ∃ (a : Addr) (ns : List Int), vs = [V.ref a] ∧ SqT K H a (ns.map V.int) ∧ Q (.int ns.sum) H
def rExtT (K : PySem.W.Frag) : V → List V → Hp → VK → Prop := fun x vs H Q => ∃ l b xs zs, x = .ref l ∧ vs = [.ref b] ∧ H l = some (.lst xs) ∧ SqT K H b zs ∧ xs.length + zs.length ≤ sizeLine ∧ Q .non (upd H l (.lst (xs ++ zs)))
section
variable {X : Cx}
theorem op_times : OpR X (binaryOp .Mult) rTimes := by
  intro pins s σ H x y v u Q I rx ry h
  obtain ⟨l, k, xs, rfl, rfl, hT, hne, h1, h2, q⟩ := h
  by_cases c : 2 ≤ k
  · refine op_repT pins s σ H _ _ v u Q I rx ry ⟨l, (k : Int), xs, rfl, rfl, .inl (.inl hT), hne, by omega, by omega, h2, fun p hp => ?_⟩
    refine q p _ (fun b o e => by rw [upd_ne (ne_of_none e hp)]; exact e) ?_
    rw [Int.toNat_natCast]
    exact upd_same
  cases rx
  obtain ⟨t, rfl⟩ := ry
  obtain ⟨its, r, ⟨⟨cls, dd, data, sl⟩, ho, hc, n, hd⟩, hs⟩ := I.tuple (a := l) (xs := xs) (.inl (.inl hT))
  simp only at hc hd
  subst hc hd
  have hi : its.toArray.isEmpty = false := by
    cases its with
    | nil =>
      cases r
      exact absurd rfl hne
    | cons a b => rfl
  by_cases c0 : k = 0
  · subst c0
    refine wpAny_binaryOp_repeat_ref (T := "tuple") (U := "int") (by decide) ⟨_, ho, rfl⟩ (fun s' => typeIs_int s' 0 t) noFill_tuple_mul PySem.F.fills_int_mul PySem.F.slot_int_rmul repeat_tuple PySem.F.slot_int_index.lookup
      (call_meets PySem.F.slot_int_rmul (typeIs_int s 0 t) PySem.F.entry_int_rmul (PySem.F.args_int_rmul_2 _ _) (int_rmul_tuple 0 t l its.toArray n dd sl)
        ⟨ho, rfl, ⟨_, ho, rfl⟩, call_meets PySem.F.slot_tuple_mul ⟨_, ho, rfl⟩ PySem.F.entry_tuple_mul (PySem.F.args_tuple_mul_2 _ _) (mul_zero l its.toArray n dd sl t hi) ⟨ho, ?_⟩⟩)
    have hf : H s.heap.objs.size = none := I.hok.fresh (Nat.le_refl _)
    refine ⟨.ref s.heap.objs.size, _, I.laid (t' := s.toks) (o := .tup []) (fun b ob e => Heap.get?_push_of_some _ e) (Nat.le_refl _) ?_, rfl, q _ _ (fun b o e => by rw [upd_ne (ne_of_none e hf)]; exact e) upd_same⟩
    exact ⟨by show 0 ≤ sizeLine; decide, [], .nil, ⟨_, Heap.get?_push_size _ rfl, rfl, _, rfl⟩⟩
  · have c1 : k = 1 := by omega
    subst c1
    refine wpAny_binaryOp_repeat_ref (T := "tuple") (U := "int") (by decide) ⟨_, ho, rfl⟩ (fun s' => typeIs_int s' 1 t) noFill_tuple_mul PySem.F.fills_int_mul PySem.F.slot_int_rmul repeat_tuple PySem.F.slot_int_index.lookup
      (call_meets PySem.F.slot_int_rmul (typeIs_int s 1 t) PySem.F.entry_int_rmul (PySem.F.args_int_rmul_2 _ _) (int_rmul_tuple 1 t l its.toArray n dd sl)
        ⟨ho, rfl, ⟨_, ho, rfl⟩, call_meets PySem.F.slot_tuple_mul ⟨_, ho, rfl⟩ PySem.F.entry_tuple_mul (PySem.F.args_tuple_mul_2 _ _) (mul_one l its.toArray n dd sl t) ⟨ho, ?_⟩⟩)
    refine ⟨.ref l, H, I, rfl, q _ _ (Same.refl H) ?_⟩
    rw [hT]
    simp
theorem cr_sumT (hc : X.calm = true) : CallR X (.builtin "sum") (rSumT X.K) := by
  intro pins s σ H vs us Q I r h
  obtain ⟨a, ns, rfl, hs, q⟩ := h
  obtain ⟨its, rv, ⟨o, ho, ht, n, hd⟩, _⟩ := I.tuple hs
  rw [Vals.ref1 r]
  have hi := rv.ints
  obtain ⟨xs, e⟩ := hi.allInts.items
  have hn : numsOf (intItems xs).toList = ns := by rw [← e]; exact hi.numsOf
  rw [nums_intItems] at hn
  rw [e] at hd
  refine ktm_sumG (I.ok.hd hc) (xs := xs) ⟨o, ho, ht, n, hd⟩ fun h' tk t' hk => ?_
  rw [preSum_eq, List.take_of_length_le (by simp), hn]
  exact ⟨.int _, H, I.kept hk, ⟨_, rfl⟩, q⟩
theorem mt_extT : MtM X "list.extend" (rExtT X.K) := by
  intro pins s σ H x vs v us Q I rx rv h
  obtain ⟨l, b, xs, zs, rfl, rfl, hH, hB, hz, q⟩ := h
  cases rx
  obtain ⟨u, rfl, ru⟩ := rv.one
  cases ru
  obtain ⟨z, its, n, r, hl, e⟩ := I.lstM hH
  obtain ⟨its2, r2, ⟨⟨cls, dd, data, sl⟩, e2, hc2, n2, hd2⟩, hz2⟩ := I.tuple hB
  simp only at hc2 hd2
  subst hc2 hd2
  have hl2 : zs.length = its2.length := r2.length
  have hsz : its.toArray.size + its2.toArray.size ≤ sizeLine := by rw [List.size_toArray, List.size_toArray]; omega
  have hlong : ¬ (!its.toArray.isEmpty && Builtin.List.listTooLong (its.toArray.size + its2.toArray.size)) = true := by
    rw [notLongL hsz, Bool.and_false]
    exact Bool.false_ne_true
  refine call_meets PySem.F.slot_list_extend ⟨_, e, rfl⟩ PySem.F.entry_list_extend (PySem.F.args_list_extend_2 _ _)
    (ext_tup l its.toArray n b its2.toArray n2 dd sl hlong (by rw [List.size_toArray]; omega) (by omega)) ⟨e, e2, ?_⟩
  refine ⟨.non, _, I.lset (its' := its ++ its2) hH e (by simp) (r.append r2) ?_, rfl, q⟩
  rw [List.length_append]
  omega
end
end Rx

set_option Elab.async false
set_option linter.all false
set_option maxRecDepth 100000
set_option maxHeartbeats 4000000
/-! A display of one pair whose key is a tuple; a comprehension over the values of a locked dict with tuple keys. -/
namespace Rx
open PySem PySem.Spec PySem.W PyProof.Rows L2
def tDisp1 (tk tv : TE) : TE := fun σ H Q => ∀ p, H p = none → tk σ (upd H p (.dT [])) fun x H1 => tv σ H1 fun y H2 => H2 p = some (.dT []) ∧ ∃ (k : List L2.Key) (b : Addr), x = .ref b ∧ H2 b = some (.tup (k.map kV)) ∧ Q (.ref p) (upd H2 p (.dT [(k, y)]))
theorem pe_disp1 {X : Cx} {pos : Pos} {k v : Expr} {tk tv : TE} (hu : X.A.units + 1 < cLine) (hk : PE X k tk) (hv : PE X v tv) : PE X (.Dict [some k] [v] pos) (tDisp1 tk tv) := by
  refine ⟨fun pins s σ H Q I q => ?_⟩
  have hn := I.hok.fresh (Nat.le_refl s.heap.objs.size)
  have I1 := I.laid (a := s.heap.objs.size) (o := .dT []) (h' := s.heap.push { cls := .type "dict", data := .dict #[] }) (t' := s.toks) (fun _ _ q => Heap.get?_push_of_some _ q) (Nat.le_refl _) (dt_empty s.heap I.big)
  have q0 := q _ hn
  rw [arm_eval_Dict, zip_pairTrees [some k] [v] X.env pos rfl rfl, dictDisplay_pairs (pairTrees [some k] [v] X.env pos) (fun z => by cases z) (by show 1 < 17; omega)]
  refine wpAny_bind (wpAny_standAt (wpAny_bind (wpAny_subDictH (knd := tupleKind (mixKind X.prog X.w)) (by show X.A.units < cLine; omega) (by show 1 ≤ 15; omega) ?_)))
  refine pairTrees_cons_walk (thn (hk.run pins _ σ _ _ I1 q0) fun u s1 ⟨x, H1, J1, rx, q1⟩ => thn (hv.run pins s1 σ H1 _ J1 q1) fun u2 s2 ⟨y, H2, J2, ry, e, ks, b, ex, hb, q2⟩ => pairTrees_nil_walk ?_)
  subst ex
  obtain rfl : u = Value.ref b := rx
  obtain ⟨z, hd, xs, rel, dd⟩ := dt_of J2.hok e
  cases rel
  refine ⟨[(ks, b, u2)], ⟨rfl, rfl, key_of J2.hok hb, trivial⟩, dd, fun h' tk' dd' hs => wpAny_pure ?_⟩
  obtain ⟨o, es, ep, ho, h2, h3, h4, _, h5⟩ := dd'
  refine ⟨.ref s.heap.objs.size, _, ?_, rfl, q2⟩
  have Jt := J2.tok tk'
  refine d_write (s := { s2 with toks := tk' }) Jt (by rw [e]; exact True.intro) hs ⟨o, ho⟩ ⟨by show 1 ≤ sizeLine; decide, hd, [(ks, b, u2)], .cons ⟨rfl, ?_, ry⟩ .nil, o, es, ep, ho, h2, h3, h4, h5⟩
  rw [upd_ne (ne_of hb e (fun z => nomatch z))]
  exact hb
/-- over the values of a locked dict -/
theorem lc_valsT {d : Addr} {o : Obj} {kvs : List (List L2.Key × V)} {g : TG} {tt : TT} {te : TE} {vs : List Nat} {σ : L2.St} {H1 : Hp} {D : Addr} {Qd : Hp → Prop} (Pv : Nat → Hp → Prop) (h0 : Pv 0 (upd H1 D (.lst [])))
    (hl : ∀ i H, i ≤ kvs.length → Pv i H → H d = some (.frz o (.dT kvs)))
    (hs : ∀ i k x H, kvs[i]? = some (k, x) → Pv i H → g x (wipe σ vs) H fun σ2 H2 => wipe σ2 vs = wipe σ vs ∧ tt σ2 H2 fun b H3 =>
      if b = true then te σ2 H3 fun y H4 => ∃ acc, H4 D = some (.lst acc) ∧ acc.length < sizeLine ∧ Pv (i + 1) (upd H4 D (.lst (acc ++ [y]))) else Pv (i + 1) H3) (hd : ∀ H, Pv kvs.length H → Qd H) :
    ∃ W : Nat → Nat → Hp → Prop, (∃ m, W 0 m (upd H1 D (.lst []))) ∧ ∀ i m H, W i m H →
      ((ItW d o kvs).stop i H ∧ Qd H) ∨ ((ItW d o kvs).go i H ∧ ∃ Nx : Hp → Prop, (∀ H', Nx H' → ∃ m', m' < m ∧ W (i + 1) m' H') ∧ ∀ x H', (ItW d o kvs).yld i H x H' → g x (wipe σ vs) H' fun σ2 H2 => wipe σ2 vs = wipe σ vs ∧ tt σ2 H2 fun b H3 =>
        if b = true then te σ2 H3 fun y H4 => ∃ acc, H4 D = some (.lst acc) ∧ acc.length < sizeLine ∧ Nx (upd H4 D (.lst (acc ++ [y]))) else Nx H3) := by
  refine ⟨fun i m H => m = kvs.length - i ∧ i ≤ kvs.length ∧ Pv i H, ⟨kvs.length, by omega, Nat.zero_le _, h0⟩, ?_⟩
  rintro i m H ⟨rfl, hi, p⟩
  have q := hl i H hi p
  by_cases hlt : i < kvs.length
  · refine .inr ⟨⟨q, hlt⟩, Pv (i + 1), fun H' p' => ⟨kvs.length - (i + 1), by omega, rfl, hlt, p'⟩, fun x H' y => ?_⟩
    obtain ⟨rfl, k, e1⟩ := y
    exact hs i k x _ e1 p
  · have e : i = kvs.length := by omega
    subst e
    exact .inl ⟨⟨q, Nat.le_refl _⟩, hd H p⟩
end Rx

set_option Elab.async false
set_option linter.all false
set_option maxRecDepth 100000
set_option maxHeartbeats 4000000
/-! A written dict with numbers as keys; a call of a local that holds a def; a comprehension over a range with a step. -/
namespace Rx
open PySem PySem.Spec PySem.W PyProof.Rows L2
/-- at c: a written dict whose keys are numbers -/
structure IntDict (K : PySem.W.Frag) (c : Addr) (es : Array DictEntry) : Prop where
  at_ : ∃ n, K.lookup c = some ⟨.type "dict", none, .dict es n, #[]⟩
  keys : ∀ e ∈ es, ∃ k t, e.key = .int k t ∧ e.hash = hashInt k
theorem IntDict.map {P : Program} {w : World} {K : PySem.W.Frag} {c : Addr} {es : Array DictEntry} {h : Heap} (D : IntDict K c es) (X : K.In h) : h.MapOf (intKind P w) c (fun k => findBy Value.isInt es k) := by
  obtain ⟨n, hl⟩ := D.at_
  refine ⟨_, es, n, X _ _ hl, ⟨rfl, rfl, rfl⟩, rfl, fun e he => ?_, fun _ => rfl⟩
  obtain ⟨k, t, e1, e2⟩ := D.keys e he
  refine ⟨k, ?_, e2⟩
  show Value.isInt k e.key = true
  rw [e1]
  simp [Value.isInt]
def rIxI (K : PySem.W.Frag) : R2 := fun x y H Q => ∃ (c : Addr) (es : Array DictEntry) (z : Int) (u0 : Value) (v0 : V), x = .ref c ∧ y = .int z ∧ IntDict K c es ∧ findBy Value.isInt es z = some u0 ∧ RelV v0 u0 ∧ Q v0 H
/-- c[z] -/
theorem ix_int {X : Cx} : IxR X (rIxI X.K) := by
  intro value slice pins s σ H x y v u Q I rx ry h hs
  obtain ⟨c, es, z, u0, v0, rfl, rfl, D, hf, r, q⟩ := h
  cases rx
  obtain ⟨t, rfl⟩ := ry
  have hm := D.map (P := X.prog) (w := X.w) I.kIn
  exact tail_any hm.typeIs slot_dict_getitem.lookup (wpAny_getItem_of (show (intKind X.prog X.w).is z (.int z t) = true by show Value.isInt z (.int z t) = true; simp [Value.isInt]) hm hf ⟨v0, H, I.tok _, r, q⟩) hs
/-- the slot holds some def that keeps a promise -/
def tCallH (P : Program) (w : World) (K : PySem.W.Frag) (mg : Str → Option Value) (base : Heap) (k i : Nat) (t : TA) : TE := fun σ H Q => ∃ f sp, σ[i]? = some (some (.ref f)) ∧ Held P w K mg base k f sp ∧ t σ H fun vs H1 => sp vs H1 Q (fun _ _ _ => False)
theorem pe_callH {X : Cx} {k i : Nat} {x : Str} {p pos : Pos} {e : Expr} {es : List Expr} {t : TA} (hr : Room k X.A) (hN : X.N[i]? = some x) (hv : Vis X.env.scope x) (ha : PA X (e :: es) t)
    (hdb : (x == ("__debug__" : Str)) = false := by decide) (hcd : (x == ("__classdict__" : Str)) = false := by decide)
    (he : starEach (e :: es) X.env = (false, eval e X.env) :: starEach es X.env := by rfl) (hpl : (backTo pos (starEach es X.env)).any (·.1) = false := by rfl) :
    PE X (.Call (.Name x p) (e :: es) [] pos) (tCallH X.prog X.w X.K X.mg X.base k i t) := by
  refine ⟨fun pins s σ H Q I h => ?_⟩
  obtain ⟨f, sp, hs, hd, ht⟩ := h
  exact (pe_callA (S := fun a => if a = f then some sp else none) (k := k) (fun f' sp' e' => by
    by_cases c : f' = f
    · rw [if_pos c] at e'
      cases e'
      rw [c]
      exact hd
    · rw [if_neg c] at e'
      cases e') hr hN hv ha hdb hcd he hpl).run pins s σ H Q I ⟨f, sp, hs, if_pos rfl, ht⟩
/-- a comprehension over a range with a step -/
theorem lc_rangeC {lo c : Int} {n : Nat} {g : TG} {tt : TT} {te : TE} {vs : List Nat} {σ : L2.St} {H1 : Hp} {D : Addr} {Qd : Hp → Prop} (Pv : Nat → Hp → Prop) (h0 : Pv 0 (upd H1 D (.lst [])))
    (hs : ∀ (i : Nat) H, i < n → Pv i H → g (.int (lo + (i : Nat) * c)) (wipe σ vs) H fun σ2 H2 => wipe σ2 vs = wipe σ vs ∧ tt σ2 H2 fun b H3 =>
      if b = true then te σ2 H3 fun y H4 => ∃ acc, H4 D = some (.lst acc) ∧ acc.length < sizeLine ∧ Pv (i + 1) (upd H4 D (.lst (acc ++ [y]))) else Pv (i + 1) H3) (hd : ∀ H, Pv n H → Qd H) :
    ∃ W : Nat → Nat → Hp → Prop, (∃ m, W 0 m (upd H1 D (.lst []))) ∧ ∀ i m H, W i m H →
      ((Itc lo c n).stop i H ∧ Qd H) ∨ ((Itc lo c n).go i H ∧ ∃ Nx : Hp → Prop, (∀ H', Nx H' → ∃ m', m' < m ∧ W (i + 1) m' H') ∧ ∀ x H', (Itc lo c n).yld i H x H' → g x (wipe σ vs) H' fun σ2 H2 => wipe σ2 vs = wipe σ vs ∧ tt σ2 H2 fun b H3 =>
        if b = true then te σ2 H3 fun y H4 => ∃ acc, H4 D = some (.lst acc) ∧ acc.length < sizeLine ∧ Nx (upd H4 D (.lst (acc ++ [y]))) else Nx H3) := by
  refine ⟨fun i m H => m = n - i ∧ i ≤ n ∧ Pv i H, ⟨n, by omega, Nat.zero_le _, h0⟩, ?_⟩
  rintro i m H ⟨rfl, hi, p⟩
  by_cases hlt : i < n
  · refine .inr ⟨hlt, Pv (i + 1), fun H' p' => ⟨n - (i + 1), by omega, rfl, hlt, p'⟩, fun x H' y => ?_⟩
    obtain ⟨rfl, rfl⟩ := y
    exact hs i _ hlt p
  · have e : i = n := by omega
    subst e
    exact .inl ⟨Nat.le_refl _, hd H p⟩
end Rx

set_option Elab.async false
set_option linter.all false
set_option maxRecDepth 100000
set_option maxHeartbeats 4000000
/-! How the program's data lie in the heap. -/
namespace Rm
open PySem PySem.Spec PyProof.Rows L2
/-- the i-th statement of the program's top -/
def topS (i : Nat) : Stmt := PySem.Challenge.pw_twodesks_s01_answers.main.body.getD i (.Pass ⟨0, 0, 0, 0⟩)
/-! ### lists of things -/
abbrev Shape (α : Type) := Hp → Addr → α → Prop
/-- what a bigger heap keeps -/
def Stays {α : Type} (P : Shape α) : Prop := ∀ (H H' : Hp) (a : Addr) (x : α), Same H H' → P H a x → P H' a x
def LstOf {α : Type} (P : Shape α) : Shape (List α) := fun H a l => ∃ as : List Addr, H a = some (.lst (as.map V.ref)) ∧ Paired (fun p x => P H p x) as l
theorem LstOf.stays {α : Type} {P : Shape α} (h : Stays P) : Stays (LstOf P) := fun _ _ _ _ e ⟨as, h1, h2⟩ => ⟨as, e _ _ h1, Paired.mapP h2 fun _ _ q => h _ _ _ _ e q⟩
def PairAt : Shape (Nat × Nat) := fun H a x => H a = some (.tup [.int x.1, .int x.2])
theorem PairAt.stays : Stays PairAt := fun _ _ _ _ e h => e _ _ h
def SheetAt : Shape Vbceah.Sheet := fun H a x => H a = some (.tup [.int x.first, .int x.second])
theorem SheetAt.stays : Stays SheetAt := fun _ _ _ _ e h => e _ _ h
def ClockAt : Shape Vbceah.Clock := fun H a x => H a = some (.tup [.int x.one, .int x.two])
theorem ClockAt.stays : Stays ClockAt := fun _ _ _ _ e h => e _ _ h
abbrev BreaksAt : Shape Vbceah.Breaks := LstOf PairAt
theorem BreaksAt.stays : Stays BreaksAt := LstOf.stays PairAt.stays
abbrev BookAt : Shape Vbceah.Book := LstOf SheetAt
theorem BookAt.stays : Stays BookAt := LstOf.stays SheetAt.stays
abbrev BooksAt : Shape (List Vbceah.Book) := LstOf BookAt
theorem BooksAt.stays : Stays BooksAt := LstOf.stays BookAt.stays
def EmptAt : Shape (Vbceah.Breaks × Vbceah.Breaks) := fun H a x => ∃ p q, H a = some (.lst [.ref p, .ref q]) ∧ BreaksAt H p x.1 ∧ BreaksAt H q x.2
theorem EmptAt.stays : Stays EmptAt := fun _ _ _ _ e ⟨p, q, h1, h2, h3⟩ => ⟨p, q, e _ _ h1, BreaksAt.stays _ _ _ _ e h2, BreaksAt.stays _ _ _ _ e h3⟩
def nats (l : List Nat) : List V := l.map fun (n : Nat) => V.int (n : Int)
def NumsAt : Shape (List Nat) := fun H a l => H a = some (.tup (nats l))
theorem NumsAt.stays : Stays NumsAt := fun _ _ _ _ e h => e _ _ h
def OrderAt : Shape (List Nat) := fun H a l => H a = some (.lst (nats l))
theorem OrderAt.stays : Stays OrderAt := fun _ _ _ _ e h => e _ _ h
def StandAt : Shape Stand := fun H a x => ∃ p c, H a = some (.tup [.ref p, .ref c]) ∧ NumsAt H p x.1 ∧ ClockAt H c x.2
theorem StandAt.stays : Stays StandAt := fun _ _ _ _ e ⟨p, c, h1, h2, h3⟩ => ⟨p, c, e _ _ h1, NumsAt.stays _ _ _ _ e h2, ClockAt.stays _ _ _ _ e h3⟩
theorem LstOf.get {α : Type} {P : Shape α} {H : Hp} : ∀ {as : List Addr} {l : List α} {i : Nat} {x : α}, Paired (fun p x => P H p x) as l → l[i]? = some x → ∃ p, as[i]? = some p ∧ P H p x
  | _, _, _, _, .nil, h => by simp at h
  | _, _, 0, _, .cons r _, h => by
    simp only [List.getElem?_cons_zero, Option.some.injEq] at h
    subst h
    exact ⟨_, rfl, r⟩
  | _, _, i + 1, x, .cons _ t, h => LstOf.get (i := i) t (by simpa using h)
theorem LstOf.at {α : Type} {P : Shape α} {H : Hp} : ∀ {as : List Addr} {l : List α} {i : Nat} {p : Addr}, Paired (fun p x => P H p x) as l → as[i]? = some p → ∃ x, l[i]? = some x ∧ P H p x
  | _, _, _, _, .nil, h => by simp at h
  | _, _, 0, _, .cons r _, h => by
    simp only [List.getElem?_cons_zero, Option.some.injEq] at h
    subst h
    exact ⟨_, rfl, r⟩
  | _, _, i + 1, x, .cons _ t, h => LstOf.at (i := i) t (by simpa using h)
theorem map_get {α β : Type} {f : α → β} {l : List α} {i : Nat} {y : β} (h : (l.map f)[i]? = some y) : ∃ x, l[i]? = some x ∧ y = f x := by
  rw [List.getElem?_map] at h
  cases e : l[i]? with
  | none => rw [e] at h; cases h
  | some x =>
    rw [e] at h
    exact ⟨x, rfl, (Option.some.inj h).symm⟩
theorem same_upd {H H' : Hp} {p : Addr} {o : HO} (e : Same H H') (h : H p = none) : Same H (upd H' p o) := fun b ob q => by
  rw [upd_ne (ne_of_none q h)]
  exact e _ _ q
theorem same_new {H : Hp} {p : Addr} {o : HO} (h : H p = none) : Same H (upd H p o) := same_upd (Same.refl H) h
theorem ifB {c : Bool} {A B : Prop} (h1 : c = true → A) (h2 : c = false → B) : if c = true then A else B := by
  cases c with
  | true => exact iteT (h1 rfl)
  | false => exact iteF (h2 rfl)
/-! ### what the top has: a def by its name -/
def Has (K : PySem.W.Frag) (mg : Str → Option Value) (x : Str) (ps : List Str) (st : Stmt) : Prop := ∃ f fd, C8.Def K mg x st f fd ∧ Binds K fd ps []
/-- the names that are still Python's own -/
structure Own (mg : Str → Option Value) : Prop where
  max : mg "max" = none
  min : mg "min" = none
  sum : mg "sum" = none
  len : mg "len" = none
  range : mg "range" = none
  all : mg "all" = none
  int : mg "int" = none
  enumerate : mg "enumerate" = none
end Rm

set_option Elab.async false
set_option linter.all false
set_option maxRecDepth 100000
set_option maxHeartbeats 4000000
/-! When work is done. -/
namespace Rm
open PySem PySem.Spec PyProof.Rows L2
section
variable {P : Program} {w : World} {K : PySem.W.Frag} {mg : Str → Option Value} {base : Heap}
/-! ### work_done -/
def spWork : Sp := fun vs H Q _ => ∃ (t w : Nat) (a : Addr) (e : Vbceah.Breaks), vs = [.int t, .int w, .ref a] ∧ BreaksAt H a e ∧ Up e ∧ ∀ H', Same H H' → Q (.int (Vbceah.worked e t w : Nat)) H'
abbrev sWork : Stmt := topS 1
abbrev nWork : List Str := ["begun", "length", "stretches", "moment", "to_do", "start", "end"]
theorem scWork : FnScope nWork ["begun", "length", "stretches"] (C8.fnScope sWork) := C8.fnScope_by (by decide +kernel)
theorem cal_work (h : Has K mg "work_done" ["begun", "length", "stretches"] sWork) (T : Own mg) : C8.Cal P w K mg base 1 "work_done" spWork [] := by
  obtain ⟨f, fd, D, b⟩ := h
  refine C8.cal0 D b .nil scWork (fun vs H Q E h => ?_) fun cdv A outer s H vs Q E hr h => ⟨_,
    pss_cons (ps_if (pt_cmpR op_eq (pv 1) pe_int (nomark _)) (pss_one (ps_ret (pv 0))) pss_nil)
    (pss_cons (ps_set (i := 3) scWork.nd rfl (.inl rfl) (pv 0))
    (pss_cons (ps_set (i := 4) scWork.nd rfl (.inl rfl) (pv 1))
    (pss_cons (ps_for PassesOwn.never rfl (pi_list (pv 2)) (pg_tup rfl (pgs_cons (pg_name (i := 5) scWork.nd rfl (.inl rfl)) (pgs_cons (pg_name (i := 6) scWork.nd rfl (.inl rfl)) pgs_nil)))
      (pss_cons (ps_if (pt_cmpR op_le (pe_op op_add (pv 3) (pv 4)) (pv 5) (nomark _)) (pss_one ps_break) pss_nil)
      (pss_cons (ps_if (pt_cmpR op_lt (pv 3) (pv 5) (nomark _)) (pss_one (ps_aug (i := 4) scWork.nd rfl (.inl rfl) (pe_op op_sub (pv 5) (pv 3)) ip_sub)) pss_nil)
      (pss_one (ps_set (i := 3) scWork.nd rfl (.inl rfl) (pe_callB (call_max2 rfl) (by rfl) T.max (by decide +kernel) (pa_cons (pv 3) (pa_cons (pv 6) pa_nil))))))))
    (pss_one (ps_ret (pe_op op_add (pv 3) (pv 4))))))), ?_⟩
  · obtain ⟨t, w, a, e, rfl, _⟩ := h
    rfl
  obtain ⟨t, w, a, e, rfl, hb, hu, k⟩ := h
  refine ⟨_, rfl, rfl, _, rfl, ifB (fun c => ?_) fun c => ?_⟩
  · have c' : w = 0 := by simpa using c
    refine ⟨_, rfl, ?_⟩
    have e0 := worked_zero e t
    rw [← c'] at e0
    have q := k H (Same.refl H)
    rw [e0] at q
    exact q
  have c' : w ≠ 0 := by simpa using c
  obtain ⟨as, hl, hp⟩ := hb
  refine ⟨_, rfl, _, rfl, ?_⟩
  refine ⟨_, rfl, a, rfl, ⟨_, .inl (.inl hl)⟩, for_list (K := K) (a := a) (xs := as.map V.ref) (fun i σ H' => ∃ (M D : Int) (m d : Nat) (x y : Option V), σ = [some (.int t), some (.int w), some (.ref a), some (.int M), some (.int D), x, y] ∧ M = m ∧ D = d ∧ d ≠ 0 ∧
    Vbceah.worked (e.drop i) m d = Vbceah.worked e t w ∧ Same H H') ⟨t, w, t, w, none, none, rfl, rfl, rfl, c', rfl, Same.refl H⟩ (fun i σ H' _ ⟨_, _, _, _, _, _, _, _, _, _, _, s5⟩ => s5.seq (.inl (.inl hl))) ?_ ?_⟩
  · rintro i x σ H' hi ⟨M, D, m, d, x1, y1, rfl, rfl, rfl, hd, hw, s5⟩
    obtain ⟨p, hpi, rfl⟩ := map_get hi
    obtain ⟨b, hbi, hb⟩ := LstOf.at hp hpi
    have hb' : H' p = some (.tup [.int b.1, .int b.2]) := s5 _ _ hb
    have ed : e.drop i = b :: e.drop (i + 1) := by
      obtain ⟨h1, h2⟩ := List.getElem?_eq_some_iff.mp hbi
      rw [List.drop_eq_getElem_cons h1, h2]
    have ub : b.1 < b.2 := hu b (List.mem_of_getElem? hbi)
    rw [ed, worked_cons, if_neg hd] at hw
    refine ⟨p, _, rfl, .inl (.inl hb'), rfl, _, _, rfl, _, _, rfl, rfl, ?_⟩
    refine ⟨_, rfl, _, rfl, _, _, rfl, rfl, _, rfl, _, _, rfl, rfl, _, rfl, ifB (fun c1 => ?_) fun c1 => ?_⟩
    · have c1' : ((m : Int) + d ≤ b.1) := by simpa using c1
      rw [if_neg (by omega), if_pos (by omega)] at hw
      refine ⟨_, rfl, _, rfl, _, _, rfl, rfl, ?_⟩
      have q := k H' s5
      rw [← hw] at q
      exact q
    have c1' : ¬ ((m : Int) + d ≤ b.1) := by simpa using c1
    refine ⟨_, rfl, _, rfl, _, _, rfl, rfl, _, rfl, ifB (fun c2 => ?_) fun c2 => ?_⟩
    · have c2' : ((m : Int) < b.1) := by simpa using c2
      rw [if_neg (by omega), if_neg (by omega)] at hw
      refine ⟨_, rfl, _, rfl, _, rfl, _, _, rfl, rfl, _, _, rfl, rfl, ?_⟩
      refine ⟨_, rfl, _, rfl, _, _, rfl, ?_⟩
      refine ⟨_, _, b.2, d - (b.1 - m), _, _, rfl, ?_, ?_, by omega, hw, s5⟩
      · rw [if_pos (by omega)]
      · show ((d : Int) - ((b.1 : Int) - m)) = _
        omega
    · have c2' : ¬ ((m : Int) < b.1) := by simpa using c2
      refine ⟨_, rfl, _, rfl, _, _, rfl, ?_⟩
      by_cases c3 : b.2 ≤ m
      · rw [if_pos c3] at hw
        refine ⟨_, _, m, d, _, _, rfl, ?_, rfl, hd, hw, s5⟩
        rw [if_neg (by omega)]
      · rw [if_neg c3, if_neg (by omega)] at hw
        refine ⟨_, _, b.2, d - (b.1 - m), _, _, rfl, ?_, ?_, by omega, hw, s5⟩
        · rw [if_pos (by omega)]
        · omega
  · rintro σ H' ⟨M, D, m, d, x1, y1, rfl, rfl, rfl, hd, hw, s5⟩
    have el : as.length = e.length := Paired.length hp
    rw [List.length_map, el, List.drop_length, worked_nil] at hw
    refine ⟨_, rfl, _, rfl, _, _, rfl, rfl, ?_⟩
    have q := k H' s5
    rw [← hw] at q
    exact q
end
end Rm

set_option Elab.async false
set_option linter.all false
set_option maxRecDepth 100000
set_option maxHeartbeats 4000000
/-! Clocks and standings behind one more sheet. -/
namespace Rm
open PySem PySem.Spec PyProof.Rows L2
/-! ### slices and sums of tuples that are tracked: the answer stands somewhere in a bigger heap -/
def rSlN : V → Option Int → Option Int → Hp → VK → Prop := fun x lo hi H Q => ∃ a xs, x = .ref a ∧ H a = some (.tup xs) ∧ ∀ p H', Same H H' → H' p = some (.tup (cutV xs lo hi)) → Q (.ref p) H'
def rCatN : R2 := fun x y H Q => ∃ a b xs ys, x = .ref a ∧ y = .ref b ∧ H a = some (.tup xs) ∧ H b = some (.tup ys) ∧ xs.length + ys.length ≤ sizeLine ∧ ∀ p H', Same H H' → H' p = some (.tup (xs ++ ys)) → Q (.ref p) H'
theorem cut_whole {xs : List V} {lo hi : Option Int} (h1 : HT.sIx xs.length 0 lo = 0) (h2 : HT.sIx xs.length xs.length hi = xs.length) : cutV xs lo hi = xs := by
  unfold cutV
  rw [h1, h2, List.drop_zero, Nat.sub_zero, List.take_length]
theorem cut_to {xs : List V} {k : Nat} (h : k ≤ xs.length) : cutV xs none (some (k : Int)) = xs.take k := by
  unfold cutV
  rw [HT.sIx_none, HT.sIx_nat, List.drop_zero, Nat.sub_zero, Nat.min_eq_left h]
theorem cut_from {xs : List V} {k : Nat} (h : k ≤ xs.length) : cutV xs (some (k : Int)) none = xs.drop k := by
  unfold cutV
  rw [HT.sIx_none, HT.sIx_nat, Nat.min_eq_left h, List.take_of_length_le (by rw [List.length_drop]; exact Nat.le_refl _)]
section
variable {X : Cx}
theorem sl_N : SlR X rSlN := by
  intro pins s σ H x v vl vu lo hi sl Q I rx hs pl pu h
  obtain ⟨a, xs, rfl, hx, q⟩ := h
  refine sl_tupA pins s σ H _ v vl vu lo hi sl Q I rx hs pl pu ⟨a, xs, rfl, .inl (.inl hx), fun hw => q a H (Same.refl H) ?_, fun hw p hp => q p _ (same_new hp) upd_same⟩
  rw [cut_whole hw.1 hw.2]
  exact hx
theorem op_catN : OpR X (binaryOp .Add) rCatN := by
  intro pins s σ H x y v u Q I rx ry h
  obtain ⟨a, b, xs, ys, rfl, rfl, ha, hb, hz, q⟩ := h
  refine op_catA pins s σ H _ _ v u Q I rx ry ⟨a, b, xs, ys, rfl, rfl, .inl (.inl ha), .inl (.inl hb), hz, fun e => q b H (Same.refl H) ?_, fun _ e => q a H (Same.refl H) ?_, fun _ _ p hp => q p _ (same_new hp) upd_same⟩
  · rw [e]; exact hb
  · rw [e, List.append_nil]; exact ha
end
theorem nats_get {l : List Nat} {i : Nat} {n : Nat} (h : l[i]? = some n) : (nats l)[i]? = some (.int n) := by
  unfold nats
  rw [List.getElem?_map, h]
  rfl
theorem nats_len (l : List Nat) : (nats l).length = l.length := List.length_map _
theorem nats_set {l : List Nat} {b n : Nat} (h : b < l.length) : (nats l).take b ++ [V.int n] ++ (nats l).drop (b + 1) = nats (l.set b n) := by
  unfold nats
  rw [List.map_set, List.set_eq_take_append_cons_drop, if_pos (by rw [List.length_map]; exact h), List.append_assoc]
  rfl
theorem book_at {bs : List Vbceah.Book} {b : Nat} (h : b < bs.length) : bs[b]? = some (Vbceah.bookAt bs b) := by
  unfold Vbceah.bookAt
  rw [List.getD_eq_getElem?_getD, List.getElem?_eq_getElem h]
  rfl
section
variable {P : Program} {w : World} {K : PySem.W.Frag} {mg : Str → Option Value} {base : Heap}
/-! ### clocks_behind -/
def spClocks : Sp := fun vs H Q _ => ∃ (ca sa ea : Addr) (c : Vbceah.Clock) (s : Vbceah.Sheet) (e1 e2 : Vbceah.Breaks), vs = [.ref ca, .ref sa, .ref ea] ∧ ClockAt H ca c ∧ SheetAt H sa s ∧ EmptAt H ea (e1, e2) ∧ Up e1 ∧ Up e2 ∧
  ∀ H' p, Same H H' → ClockAt H' p (Vbceah.placed e1 e2 c s) → Q (.ref p) H'
abbrev sClocks : Stmt := topS 2
abbrev nClocks : List Str := ["clocks", "sheet", "empties", "computed", "checked"]
theorem scClocks : FnScope nClocks ["clocks", "sheet", "empties"] (C8.fnScope sClocks) := C8.fnScope_by (by decide +kernel)
theorem cal_clocks (h : Has K mg "clocks_behind" ["clocks", "sheet", "empties"] sClocks) (T : Own mg) (W : C8.Cal P w K mg base 1 "work_done" spWork []) : C8.Cal P w K mg base 2 "clocks_behind" spClocks [] := by
  obtain ⟨f, fd, D, b⟩ := h
  refine C8.cal0 D b .nil scClocks (fun vs H Q E h => ?_) fun cdv A outer s H vs Q E hr h => ⟨_,
    pss_cons (ps_set (i := 3) scClocks.nd rfl (.inl rfl) (C8.pe_c W hr (by decide) (by rfl) (pa_cons (pe_ix ix_tup (pv 0) pe_int (fun _ _ => rfl)) (pa_cons (pe_ix ix_tup (pv 1) pe_int (fun _ _ => rfl)) (pa_cons (pe_ix ix_list (pv 2) pe_int (fun _ _ => rfl)) pa_nil)))))
    (pss_cons (ps_set (i := 4) scClocks.nd rfl (.inl rfl) (C8.pe_c W hr (by decide) (by rfl) (pa_cons (pe_callB (call_max2 rfl) (by rfl) T.max (by decide +kernel) (pa_cons (pv 3) (pa_cons (pe_ix ix_tup (pv 0) pe_int (fun _ _ => rfl)) pa_nil)))
      (pa_cons (pe_ix ix_tup (pv 1) pe_int (fun _ _ => rfl)) (pa_cons (pe_ix ix_list (pv 2) pe_int (fun _ _ => rfl)) pa_nil)))))
    (pss_one (ps_ret (pe_tup (pa_cons (pv 3) (pa_cons (pv 4) pa_nil)))))), ?_⟩
  · obtain ⟨ca, sa, ea, c, s, e1, e2, rfl, _⟩ := h
    rfl
  obtain ⟨ca, sa, ea, c, s, e1, e2, rfl, hc, hs, ⟨p1, p2, he, hb1, hb2⟩, u1, u2, k⟩ := h
  refine ⟨_, rfl, ca, _, 0, _, rfl, rfl, .inl (.inl hc), rfl, ?_⟩
  refine ⟨_, rfl, sa, _, 0, _, rfl, rfl, .inl (.inl hs), rfl, ?_⟩
  refine ⟨_, rfl, ea, _, 0, _, rfl, rfl, .inl (.inl he), rfl, ?_⟩
  refine ⟨c.one, s.first, p1, e1, rfl, hb1, u1, fun H1 g1 => ?_⟩
  refine ⟨_, rfl, _, rfl, ca, _, 1, _, rfl, rfl, .inl (.inl (g1 _ _ hc)), rfl, _, _, rfl, ?_⟩
  refine ⟨_, rfl, sa, _, 1, _, rfl, rfl, .inl (.inl (g1 _ _ hs)), rfl, ?_⟩
  refine ⟨_, rfl, ea, _, 1, _, rfl, rfl, .inl (.inl (g1 _ _ he)), rfl, ?_⟩
  refine ⟨max c.two (Vbceah.worked e1 c.one s.first), s.second, p2, e2, ?_, BreaksAt.stays _ _ _ _ g1 hb2, u2, fun H2 g2 => ?_⟩
  · have e : (if (c.two : Int) > (Vbceah.worked e1 c.one s.first : Nat) then (c.two : Int) else ((Vbceah.worked e1 c.one s.first : Nat) : Int)) = ((max c.two (Vbceah.worked e1 c.one s.first) : Nat) : Int) := by
      split <;> omega
    show [V.int (if (c.two : Int) > (Vbceah.worked e1 c.one s.first : Nat) then (c.two : Int) else ((Vbceah.worked e1 c.one s.first : Nat) : Int)), _, _] = _
    rw [e]
  refine ⟨_, rfl, _, rfl, (by show 2 ≤ sizeLine; decide), fun p hp => ?_⟩
  exact k _ p (same_upd (g1.trans g2) (g1.free (g2.free hp))) upd_same
/-! ### first_standing, count_sheets -/
def spFirst : Sp := fun vs H Q _ => ∃ (ba : Addr) (bs : List Vbceah.Book), vs = [.ref ba] ∧ BooksAt H ba bs ∧ bs.length ≤ 1000 ∧ ∀ H' p, Same H H' → StandAt H' p (first0 bs) → Q (.ref p) H'
abbrev sFirst : Stmt := topS 3
theorem scFirst : FnScope ["books"] ["books"] (C8.fnScope sFirst) := C8.fnScope_by (by decide +kernel)
theorem rep_nats (n : Nat) : (List.replicate n [V.int 0]).flatten = nats (Vbceah.zeros n) := by
  unfold nats Vbceah.zeros
  rw [List.map_replicate]
  induction n with
  | zero => rfl
  | succ k ih =>
    rw [List.replicate_succ, List.replicate_succ, List.flatten_cons, ih]
    rfl
theorem cal_first (h : Has K mg "first_standing" ["books"] sFirst) (T : Own mg) : C8.Cal P w K mg base 1 "first_standing" spFirst [] := by
  obtain ⟨f, fd, D, b⟩ := h
  refine C8.cal0 D b .nil scFirst (fun vs H Q E h => ?_) fun cdv A outer s H vs Q E hr h => ⟨_,
    pss_one (ps_ret (pe_tup (pa_cons (pe_op Rx.op_times (pe_tup (pa_cons pe_int pa_nil)) (pe_callB call_len_seq (by rfl) T.len PySem.boot_len (pa_cons (pv 0) pa_nil))) (pa_cons (pe_tup (pa_cons pe_int (pa_cons pe_int pa_nil))) pa_nil)))), ?_⟩
  · obtain ⟨ba, bs, rfl, _⟩ := h
    rfl
  obtain ⟨ba, bs, rfl, ⟨as, hl, hp⟩, h4, k⟩ := h
  have el : (as.map V.ref).length = bs.length := by rw [List.length_map]; exact Paired.length hp
  refine ⟨(by show 1 ≤ sizeLine; decide), fun t ht => ⟨_, rfl, ba, _, rfl, .inl (.inl (.inl (same_new ht _ _ hl))), ?_⟩⟩
  refine ⟨t, bs.length, _, rfl, by rw [el], upd_same, by decide, h4, by decide, fun p H1 g1 hp1 => ?_⟩
  refine ⟨(by show 2 ≤ sizeLine; decide), fun c hc => ⟨(by show 2 ≤ sizeLine; decide), fun q hq => ?_⟩⟩
  have g2 : Same H (upd (upd H1 c (HO.tup [V.int 0, V.int 0])) q (HO.tup [V.ref p, V.ref c])) := same_upd (same_upd ((same_new ht).trans g1) ((same_new ht).free (g1.free hc))) ((same_new ht).free (g1.free ((same_new hc).free hq)))
  refine k _ q g2 ⟨p, c, upd_same, ?_, ?_⟩
  · show _ = some (HO.tup (nats (Vbceah.zeros bs.length)))
    rw [rep_nats] at hp1
    exact same_new hq _ _ (same_new hc _ _ hp1)
  · exact same_new hq _ _ upd_same
/-! ### standing_behind -/
def spBehind : Sp := fun vs H Q _ => ∃ (ba ea sa : Addr) (b : Nat) (bs : List Vbceah.Book) (e1 e2 : Vbceah.Breaks) (x : Stand), vs = [.ref ba, .ref ea, .ref sa, .int b] ∧ BooksAt H ba bs ∧ EmptAt H ea (e1, e2) ∧ StandAt H sa x ∧ Up e1 ∧ Up e2 ∧
  b < bs.length ∧ x.1.length = bs.length ∧ bs.length ≤ 1000 ∧ x.1.getD b 0 ≤ (Vbceah.bookAt bs b).length ∧
  (nextOf bs e1 e2 x b = none → ∀ H', Same H H' → Q .non H') ∧ (∀ y, nextOf bs e1 e2 x b = some y → ∀ H' p, Same H H' → StandAt H' p y → Q (.ref p) H')
abbrev sBehind : Stmt := topS 5
abbrev nBehind : List Str := ["books", "empties", "standing", "book", "taken", "clocks", "number", "taken_behind"]
theorem scBehind : FnScope nBehind ["books", "empties", "standing", "book"] (C8.fnScope sBehind) := C8.fnScope_by (by decide +kernel)
theorem cal_behind (h : Has K mg "standing_behind" ["books", "empties", "standing", "book"] sBehind) (T : Own mg) (C : C8.Cal P w K mg base 2 "clocks_behind" spClocks []) : C8.Cal P w K mg base 3 "standing_behind" spBehind [] := by
  obtain ⟨f, fd, D, b⟩ := h
  refine C8.cal0 D b .nil scBehind (fun vs H Q E h => ?_) fun cdv A outer s H vs Q E hr h => ⟨_,
    pss_cons (ps_asg (pv 2) (pg_tup rfl (pgs_cons (pg_name (i := 4) scBehind.nd rfl (.inl rfl)) (pgs_cons (pg_name (i := 5) scBehind.nd rfl (.inl rfl)) pgs_nil))))
    (pss_cons (ps_set (i := 6) scBehind.nd rfl (.inl rfl) (pe_ix ix_tup (pv 4) (pv 3) (fun _ _ => rfl)))
    (pss_cons (ps_if (pt_cmpR op_eq (pv 6) (pe_callB call_len_seq (by rfl) T.len PySem.boot_len (pa_cons (pe_ix ix_list (pv 0) (pv 3) (fun _ _ => rfl)) pa_nil)) (nomark _)) (pss_one (ps_ret pe_non)) pss_nil)
    (pss_cons (ps_set (i := 7) scBehind.nd rfl (.inl rfl) (pe_op op_catN (pe_op op_catN (pe_slice sl_N (pv 4) po_none (po_some (pv 3))) (pe_tup (pa_cons (pe_op op_add (pv 6) pe_int) pa_nil))) (pe_slice sl_N (pv 4) (po_some (pe_op op_add (pv 3) pe_int)) po_none)))
    (pss_one (ps_ret (pe_tup (pa_cons (pv 7) (pa_cons (C8.pe_c C hr (by decide) (by rfl) (pa_cons (pv 5) (pa_cons (pe_ix ix_list (pe_ix ix_list (pv 0) (pv 3) (fun _ _ => rfl)) (pv 6) (fun _ _ => rfl)) (pa_cons (pv 1) pa_nil)))) pa_nil)))))))), ?_⟩
  · obtain ⟨ba, ea, sa, b, bs, e1, e2, x, rfl, _⟩ := h
    rfl
  obtain ⟨ba, ea, sa, b, bs, e1, e2, x, rfl, ⟨as, hl, hp⟩, hE, ⟨pa, ca, hS, hN, hC⟩, u1, u2, hb, hx, h4, hle, kN, kS⟩ := h
  obtain ⟨qb, hq, hB⟩ := LstOf.get hp (book_at hb)
  obtain ⟨ss, hbl, hbp⟩ := hB
  have hv : x.1[b]? = some (x.1.getD b 0) := by
    rw [List.getD_eq_getElem?_getD, List.getElem?_eq_getElem (by omega)]
    rfl
  have hq' : (as.map V.ref)[b]? = some (.ref qb) := by rw [List.getElem?_map, hq]; rfl
  refine ⟨_, rfl, sa, _, rfl, .inl (.inl hS), rfl, _, _, rfl, _, _, rfl, rfl, ?_⟩
  refine ⟨_, rfl, _, rfl, pa, _, _, _, rfl, rfl, .inl (.inl hN), atI_nat (nats_get hv), ?_⟩
  refine ⟨_, rfl, _, rfl, _, rfl, ba, _, _, _, rfl, rfl, .inl (.inl hl), atI_nat hq', ?_⟩
  refine ⟨qb, _, rfl, .inl (.inl (.inl hbl)), rfl, _, rfl, ?_⟩
  have el : (ss.map V.ref).length = (Vbceah.bookAt bs b).length := by rw [List.length_map]; exact Paired.length hbp
  rw [el]
  refine ifB (fun c => ?_) fun c => ?_
  · have c' : x.1.getD b 0 = (Vbceah.bookAt bs b).length := Int.ofNat_inj.mp (V.int.inj (of_decide_eq_true c))
    refine kN ?_ H (Same.refl H)
    unfold nextOf
    rw [c', List.getElem?_eq_none (Nat.le_refl _)]
    rfl
  have c' : x.1.getD b 0 ≠ (Vbceah.bookAt bs b).length := by
    intro z
    rw [z] at c
    simp at c
  have hlt : x.1.getD b 0 < (Vbceah.bookAt bs b).length := by omega
  have hs : (Vbceah.bookAt bs b)[x.1.getD b 0]? = some (Vbceah.bookAt bs b)[x.1.getD b 0] := List.getElem?_eq_getElem hlt
  obtain ⟨qs, hqs, hSh⟩ := LstOf.get hbp hs
  have hqs' : (ss.map V.ref)[x.1.getD b 0]? = some (.ref qs) := by rw [List.getElem?_map, hqs]; rfl
  refine ⟨_, rfl, _, rfl, _, rfl, pa, _, rfl, hN, fun p1 H1 g1 e1' => ?_⟩
  rw [cut_to (by rw [nats_len]; omega)] at e1'
  refine ⟨_, rfl, _, _, rfl, rfl, (by show 1 ≤ sizeLine; decide), fun t ht => ?_⟩
  refine ⟨p1, t, _, _, rfl, rfl, same_new ht _ _ e1', upd_same, ?_, fun p2 H2 g2 e2' => ?_⟩
  · rw [List.length_take, nats_len]
    show _ + 1 ≤ sizeLine
    rw [sizeLine_eq]
    omega
  have g3 : Same H H2 := (g1.trans (same_new ht)).trans g2
  refine ⟨_, rfl, _, rfl, _, _, rfl, rfl, _, rfl, pa, _, rfl, g3 _ _ hN, fun p3 H3 g4 e3' => ?_⟩
  have ec : ((b : Int) + 1) = ((b + 1 : Nat) : Int) := by omega
  have e3'' : H3 p3 = some (.tup ((nats x.1).drop (b + 1))) := by
    rw [← cut_from (by rw [nats_len]; omega), ← ec]
    exact e3'
  have g5 := g3.trans g4
  refine ⟨p2, p3, _, _, rfl, rfl, g4 _ _ e2', e3'', ?_, fun p4 H4 g6 e4' => ?_⟩
  · rw [List.length_append, List.length_take, List.length_drop, nats_len, sizeLine_eq]
    show _ + 1 + _ ≤ _
    omega
  have e4'' : H4 p4 = some (.tup (nats (x.1.set b (x.1.getD b 0 + 1)))) := by
    rw [← nats_set (by omega)]
    exact e4'
  have g7 := g5.trans g6
  refine ⟨_, rfl, _, rfl, _, rfl, _, rfl, ba, _, _, _, rfl, rfl, .inl (.inl (g7 _ _ hl)), atI_nat hq', ?_⟩
  refine ⟨_, rfl, qb, _, _, _, rfl, rfl, .inl (.inl (g7 _ _ hbl)), atI_nat hqs', _, rfl, ?_⟩
  refine ⟨ca, qs, ea, x.2, _, e1, e2, rfl, ClockAt.stays _ _ _ _ g7 hC, SheetAt.stays _ _ _ _ g7 hSh, EmptAt.stays _ _ _ _ g7 hE, u1, u2, fun H5 p5 g8 e5 => ?_⟩
  refine ⟨(by show 2 ≤ sizeLine; decide), fun p6 h6 => ?_⟩
  refine kS _ (nextOf_of hs) _ p6 (same_upd (g7.trans g8) (g7.free (g8.free h6))) ⟨p4, p5, upd_same, ?_, ?_⟩
  · exact same_new h6 _ _ (g8 _ _ e4'')
  · exact same_new h6 _ _ e5
end
end Rm

set_option Elab.async false
set_option linter.all false
set_option maxRecDepth 100000
set_option maxHeartbeats 4000000
/-! How many sheets; the standings along an order. -/
namespace Rm
open PySem PySem.Spec PyProof.Rows L2
theorem take_get {α : Type} {l : List α} {i : Nat} {x : α} (h : l[i]? = some x) : l.take (i + 1) = l.take i ++ [x] := by
  rw [List.take_add_one, h]
  rfl
def lens (bs : List Vbceah.Book) : List Int := bs.map fun b => (b.length : Int)
theorem lens_sum : ∀ bs : List Vbceah.Book, (lens bs).sum = ((Vbceah.sheetsIn bs : Nat) : Int)
  | [] => rfl
  | b :: bs => by
    have i := lens_sum bs
    unfold lens at i ⊢
    rw [List.map_cons, List.sum_cons, i]
    show _ = ((b.length + Vbceah.sheetsIn bs : Nat) : Int)
    omega
/-- len, its reading by the written part alone (for a comprehension's block) -/
def rLen (K : PySem.W.Frag) : List V → Hp → VK → Prop := fun xs H Q => ∃ p ys, xs = [.ref p] ∧ (SqL K H p ys ∨ SqT K H p ys) ∧ Q (.int ys.length) H
theorem call_lenK {X : Cx} (K : PySem.W.Frag) (h : X.K = K := by rfl) : CallR X (.builtin "len") (rLen K) := by
  subst h
  exact call_len_seq
section
variable {P : Program} {w : World} {K : PySem.W.Frag} {mg : Str → Option Value} {base : Heap}
/-! ### count_sheets -/
def spCount : Sp := fun vs H Q _ => ∃ (ba : Addr) (bs : List Vbceah.Book), vs = [.ref ba] ∧ BooksAt H ba bs ∧ bs.length ≤ 1000 ∧ ∀ H', Same H H' → Q (.int (Vbceah.sheetsIn bs : Nat)) H'
abbrev sCount : Stmt := topS 4
abbrev nCount : List Str := ["books", "sheets"]
theorem scCount : FnScope nCount ["books"] (C8.fnScope sCount) := C8.fnScope_by (by decide +kernel)
theorem cal_count (h : Has K mg "count_sheets" ["books"] sCount) (T : Own mg) : C8.Cal P w K mg base 1 "count_sheets" spCount [] := by
  obtain ⟨f, fd, D, b⟩ := h
  refine C8.cal0 D b .nil scCount (fun vs H Q E h => ?_) fun cdv A outer s H vs Q E hr h => ⟨_,
    pss_one (ps_ret (pe_callB (cr_sum rfl) (by rfl) T.sum (by decide +kernel) (pa_cons (pe_lc (own := [("sheets", 1)]) (g := gName 1) (by rfl) scCount.nd (pi_list (pv 0)) (blkOk_by (own := [("sheets", 1)]) (N := nCount) (sc := C8.fnScope sCount) (by decide +kernel))
      (fun _ _ _ _ _ => pg_name (i := 1) scCount.nd rfl (Or.inl rfl)) (fun _ _ _ _ _ => pts_nil) (fun _ _ _ _ _ => pe_callB (call_lenK K) (by rfl) T.len PySem.boot_len (pa_cons (pv 1) pa_nil))) pa_nil))), ?_⟩
  · obtain ⟨ba, bs, rfl, _⟩ := h
    rfl
  obtain ⟨ba, bs, rfl, ⟨as, hl, hp⟩, h4, k⟩ := h
  have el : as.length = bs.length := Paired.length hp
  refine ⟨_, rfl, ba, rfl, ⟨_, .inl (.inl hl)⟩, fun D hD => lc_list (K := K) (a := ba) (xs := as.map V.ref) (fun i H' => Same H H' ∧ H' D = some (.lst (((lens bs).take i).map V.int)))
    ⟨same_new hD, upd_same⟩ (fun i H' _ ⟨s5, _⟩ => s5.seq (.inl (.inl hl))) ?_ ?_⟩
  · rintro i x H' hi ⟨s5, hD'⟩
    obtain ⟨p, hpi, rfl⟩ := map_get hi
    obtain ⟨bk, hbi, ⟨ss, hb1, hb2⟩⟩ := LstOf.at hp hpi
    refine ⟨rfl, _, rfl, p, _, rfl, .inl (.inl (.inl (s5 _ _ hb1))), _, hD', ?_, same_upd s5 hD, ?_⟩
    · rw [List.length_map, List.length_take, sizeLine_eq]
      have : i < as.length := (List.getElem?_eq_some_iff.mp hpi).1
      omega
    · rw [upd_same, List.length_map, Paired.length hb2]
      have e : (lens bs)[i]? = some (bk.length : Int) := by unfold lens; rw [List.getElem?_map, hbi]; rfl
      rw [take_get e, List.map_append]
      rfl
  · rintro H' ⟨s5, hD'⟩
    refine ⟨D, lens bs, rfl, .inl (.inl ?_), ?_⟩
    · rw [List.length_map, el, List.take_of_length_le (by unfold lens; rw [List.length_map]; exact Nat.le_refl _)] at hD'
      exact hD'
    · rw [lens_sum]
      exact k H' s5
end
end Rm

set_option Elab.async false
set_option linter.all false
set_option maxRecDepth 100000
set_option maxHeartbeats 4000000
/-! The standings along an order. -/
namespace Rm
open PySem PySem.Spec PyProof.Rows L2
theorem Paired.snoc {α β : Type} {F : α → β → Prop} : ∀ {l₁ : List α} {l₂ : List β} {a : α} {b : β}, Paired F l₁ l₂ → F a b → Paired F (l₁ ++ [a]) (l₂ ++ [b])
  | _, _, _, _, .nil, h => .cons h .nil
  | _, _, _, _, .cons r t, h => .cons r (Paired.snoc t h)
section
variable {P : Program} {w : World} {K : PySem.W.Frag} {mg : Str → Option Value} {base : Heap}
def spAlong : Sp := fun vs H Q _ => ∃ (ba ea oa : Addr) (bs : List Vbceah.Book) (e1 e2 : Vbceah.Breaks) (order : List Nat), vs = [.ref ba, .ref ea, .ref oa] ∧ BooksAt H ba bs ∧ EmptAt H ea (e1, e2) ∧ OrderAt H oa order ∧ Up e1 ∧ Up e2 ∧
  bs.length ≤ 1000 ∧ order.length ≤ 1000 ∧ Runs bs [] order ∧ ∀ H' p, Same H H' → LstOf StandAt H' p (first0 bs :: trail bs e1 e2 (first0 bs) order) → Q (.ref p) H'
abbrev sAlong : Stmt := topS 6
abbrev nAlong : List Str := ["books", "empties", "order", "standing", "standings", "book"]
theorem scAlong : FnScope nAlong ["books", "empties", "order"] (C8.fnScope sAlong) := C8.fnScope_by (by decide +kernel)
theorem cal_along (h : Has K mg "standings_along" ["books", "empties", "order"] sAlong) (T : Own mg) (F1 : C8.Cal P w K mg base 1 "first_standing" spFirst []) (B : C8.Cal P w K mg base 3 "standing_behind" spBehind []) : C8.Cal P w K mg base 4 "standings_along" spAlong [] := by
  obtain ⟨f, fd, D, b⟩ := h
  refine C8.cal0 D b .nil scAlong (fun vs H Q E h => ?_) fun cdv A outer s H vs Q E hr h => ⟨_,
    pss_cons (ps_set (i := 3) scAlong.nd rfl (.inl rfl) (C8.pe_c F1 hr (by decide) (by rfl) (pa_cons (pv 0) pa_nil)))
    (pss_cons (ps_set (i := 4) scAlong.nd rfl (.inl rfl) (pe_lst (pa_cons (pv 3) pa_nil)))
    (pss_cons (ps_for PassesOwn.never rfl (pi_list (pv 2)) (pg_name (i := 5) scAlong.nd rfl (.inl rfl))
      (pss_cons (ps_set (i := 3) scAlong.nd rfl (.inl rfl) (C8.pe_c B hr (by decide) (by rfl) (pa_cons (pv 0) (pa_cons (pv 1) (pa_cons (pv 3) (pa_cons (pv 5) pa_nil))))))
      (pss_one (ps_expr (pe_bm PySem.F.plainAttrs_list PySem.F.slot_list_append PySem.F.type_list_append mt_append (pv 4) (pa_cons (pv 3) pa_nil))))))
    (pss_one (ps_ret (pv 4))))), ?_⟩
  · obtain ⟨ba, ea, oa, bs, e1, e2, order, rfl, _⟩ := h
    rfl
  obtain ⟨ba, ea, oa, bs, e1, e2, order, rfl, hB, hE, hO, u1, u2, h4, ho, R, k⟩ := h
  refine ⟨_, rfl, ba, bs, rfl, hB, h4, fun H1 sp g1 hS => ?_⟩
  refine ⟨_, rfl, (by show 1 ≤ sizeLine; decide), fun L hL => ?_⟩
  have hL0 : H L = none := g1.free hL
  refine ⟨_, rfl, oa, rfl, ⟨_, .inl (.inl (same_upd g1 hL0 _ _ hO))⟩, for_list (K := K) (a := oa) (xs := nats order) (fun i σ H' => ∃ (q : Addr) (as : List Addr) (v : Option V), σ = [some (.ref ba), some (.ref ea), some (.ref oa), some (.ref q), some (.ref L), v] ∧
    StandAt H' q (lead0 bs e1 e2 (order.take i)) ∧ H' L = some (.lst (as.map V.ref)) ∧ Paired (fun p x => StandAt H' p x) as (first0 bs :: trail bs e1 e2 (first0 bs) (order.take i)) ∧ Same H H')
    ⟨sp, [sp], none, rfl, StandAt.stays _ _ _ _ (same_new hL) hS, upd_same, .cons (StandAt.stays _ _ _ _ (same_new hL) hS) .nil, same_upd g1 hL0⟩
    (fun i σ H' _ ⟨_, _, _, _, _, _, _, s5⟩ => .inl (.inl (s5 _ _ hO))) ?_ ?_⟩
  · rintro i x σ H' hi ⟨q, as, v, rfl, hq, hLa, hP, s5⟩
    obtain ⟨n, hn, rfl⟩ := map_get hi
    obtain ⟨hb, y, hy, et, ey⟩ := along_step (e1 := e1) (e2 := e2) u1 R hn
    have F := lead0_fit (e2 := e2) u1 (runs_take R i)
    refine ⟨_, rfl, _, rfl, _, rfl, _, rfl, ?_⟩
    refine ⟨ba, ea, q, n, bs, e1, e2, _, rfl, BooksAt.stays _ _ _ _ s5 hB, EmptAt.stays _ _ _ _ s5 hE, hq, u1, u2, hb, F.len, h4, F.le n hb, fun z => ?_, fun z hz H2 p2 g2 hS2 => ?_⟩
    · rw [hy] at z
      cases z
    have ez : z = y := Option.some.inj (hz.symm.trans hy)
    subst ez
    have hl2 := g2 _ _ hLa
    refine ⟨_, rfl, .inl ⟨rfl, _, .inl (.inl hl2)⟩, _, rfl, L, _, _, rfl, rfl, hl2, ?_, ?_⟩
    · have e1' := Paired.length hP
      rw [List.length_cons, trail_len (runs_take R i), List.length_take] at e1'
      rw [List.length_map, sizeLine_eq]
      omega
    have s6 := s5.trans g2
    have ne : ∀ b o, H b = some o → b ≠ L := fun b o e z => by rw [z, hL0] at e; cases e
    have k7 : ∀ p x, StandAt H2 p x → StandAt (upd H2 L (.lst (as.map V.ref ++ [.ref p2]))) p x := fun p x ⟨a1, a2, b1, b2, b3⟩ =>
      ⟨a1, a2, by rw [upd_ne (ne_of b1 hl2 (fun z => nomatch z))]; exact b1, by unfold NumsAt; rw [upd_ne (ne_of b2 hl2 (fun z => nomatch z))]; exact b2, by unfold ClockAt; rw [upd_ne (ne_of b3 hl2 (fun z => nomatch z))]; exact b3⟩
    refine ⟨p2, as ++ [p2], _, rfl, ?_, ?_, ?_, ?_⟩
    · rw [ey]
      exact k7 _ _ hS2
    · rw [List.map_append]
      exact upd_same
    · rw [et, ← List.cons_append]
      exact Paired.snoc (Paired.mapP hP fun p x h => k7 _ _ (StandAt.stays _ _ _ _ g2 h)) (k7 _ _ hS2)
    · exact fun b o e => by rw [upd_ne (ne b o e)]; exact s6 _ _ e
  · rintro σ H' ⟨q, as, v, rfl, hq, hLa, hP, s5⟩
    rw [nats_len, List.take_length] at hP
    exact ⟨_, rfl, k H' L s5 ⟨as, hLa, hP⟩⟩
end
end Rm

set_option Elab.async false
set_option linter.all false
set_option maxRecDepth 100000
set_option maxHeartbeats 4000000
/-! A table by progress as a dict. -/
namespace Rm
open PySem PySem.Spec PyProof.Rows L2
def keyOf (p : List Nat) : List L2.Key := p.map fun (n : Nat) => Sum.inl (n : Int)
theorem keyOf_kV (p : List Nat) : (keyOf p).map kV = nats p := by
  unfold keyOf nats
  rw [List.map_map]
  rfl
theorem keyOf_inj : ∀ {p q : List Nat}, keyOf p = keyOf q → p = q
  | [], [], _ => rfl
  | [], _ :: _, h => by cases h
  | _ :: _, [], h => by cases h
  | a :: p, b :: q, h => by
    have h' : (Sum.inl (a : Int) : L2.Key) :: keyOf p = Sum.inl (b : Int) :: keyOf q := h
    injection h' with h1 h2
    rw [Int.ofNat_inj.mp (Sum.inl.inj h1), keyOf_inj h2]
/-- an entry of the dict and an entry of the table -/
def EntryAt (H : Hp) (kv : List L2.Key × V) (x : Stand) : Prop := kv.1 = keyOf x.1 ∧ ∃ c, kv.2 = .ref c ∧ ClockAt H c x.2
def TableAt (H : Hp) (a : Addr) (r : Vbceah.Reach) : Prop := ∃ kvs, H a = some (.dT kvs) ∧ Paired (EntryAt H) kvs r
theorem EntryAt.stays {H H' : Hp} {kv : List L2.Key × V} {x : Stand} (e : Same H H') (h : EntryAt H kv x) : EntryAt H' kv x := by
  obtain ⟨h1, c, h2, h3⟩ := h
  exact ⟨h1, c, h2, e _ _ h3⟩
theorem val_none {H : Hp} : ∀ {kvs : List (List L2.Key × V)} {r : Vbceah.Reach} {p : List Nat}, Paired (EntryAt H) kvs r → (∀ x ∈ r, x.1 ≠ p) → valV kvs (keyOf p) = none
  | _, _, _, .nil, _ => rfl
  | _, _, p, .cons h t, hr => by
    rw [valV_neg (fun z => hr _ (List.mem_cons_self ..) (keyOf_inj (h.1.symm.trans z)))]
    exact val_none t fun x hx => hr x (List.mem_cons_of_mem _ hx)
theorem val_some {H : Hp} : ∀ {kvs : List (List L2.Key × V)} {r : Vbceah.Reach} {p : List Nat} {x : Stand}, Paired (EntryAt H) kvs r → r.find? (fun y => decide (y.1 = p)) = some x → ∃ c, valV kvs (keyOf p) = some (.ref c) ∧ ClockAt H c x.2
  | _, _, _, _, .nil, h => by cases h
  | kv :: _, y :: r, p, x, .cons h t, hr => by
    rw [List.find?_cons] at hr
    by_cases c : y.1 = p
    · rw [decide_eq_true c] at hr
      have e : y = x := Option.some.inj hr
      subst e
      obtain ⟨h1, q, h2, h3⟩ := h
      exact ⟨q, by rw [valV_pos (h1.trans (by rw [c])), h2], h3⟩
    · rw [decide_eq_false c] at hr
      rw [valV_neg (fun z => c (keyOf_inj (h.1.symm.trans z)))]
      exact val_some t hr
theorem lesser_new {p : List Nat} {c : Vbceah.Clock} : ∀ {r : Vbceah.Reach}, (∀ x ∈ r, x.1 ≠ p) → Vbceah.lesserIn r p c = r ++ [(p, c)]
  | [], _ => rfl
  | x :: l, h => by
    show (if x.1 = p then _ else x :: Vbceah.lesserIn l p c) = _
    rw [if_neg (h x (List.mem_cons_self ..)), lesser_new fun y hy => h y (List.mem_cons_of_mem _ hy)]
    rfl
theorem lesser_keep {p : List Nat} {c : Vbceah.Clock} : ∀ {r : Vbceah.Reach} {x : Stand}, r.find? (fun y => decide (y.1 = p)) = some x → ¬ c.two < x.2.two → Vbceah.lesserIn r p c = r
  | [], _, h, _ => by cases h
  | y :: l, x, h, hc => by
    rw [List.find?_cons] at h
    show (if y.1 = p then (if c.two < y.2.two then (p, c) :: l else y :: l) else y :: Vbceah.lesserIn l p c) = y :: l
    by_cases e : y.1 = p
    · rw [decide_eq_true e] at h
      have e2 : y = x := Option.some.inj h
      subst e2
      rw [if_pos e, if_neg hc]
    · rw [decide_eq_false e] at h
      rw [if_neg e, lesser_keep h hc]
/-- the keys stand once -/
def Once (r : Vbceah.Reach) : Prop := (r.map Prod.fst).Nodup
theorem lesser_keys {p : List Nat} {c : Vbceah.Clock} : ∀ {r : Vbceah.Reach}, (Vbceah.lesserIn r p c).map Prod.fst = if p ∈ r.map Prod.fst then r.map Prod.fst else r.map Prod.fst ++ [p]
  | [] => by simp [Vbceah.lesserIn]
  | x :: l => by
    show (if x.1 = p then (if c.two < x.2.two then (p, c) :: l else x :: l) else x :: Vbceah.lesserIn l p c).map Prod.fst = _
    by_cases e : x.1 = p
    · have m : p ∈ (x :: l).map Prod.fst := by rw [← e]; exact List.mem_map_of_mem (List.mem_cons_self ..)
      rw [if_pos e, if_pos m]
      by_cases c2 : c.two < x.2.two
      · rw [if_pos c2, List.map_cons, List.map_cons, e]
      · rw [if_neg c2]
    · rw [if_neg e, List.map_cons, lesser_keys (r := l), List.map_cons]
      by_cases m : p ∈ l.map Prod.fst
      · rw [if_pos m, if_pos (List.mem_cons_of_mem _ m)]
      · rw [if_neg m, if_neg (fun z => by
          rcases List.mem_cons.mp z with z | z
          · exact e z.symm
          · exact m z)]
        rfl
theorem Once.lesser {r : Vbceah.Reach} (h : Once r) (p : List Nat) (c : Vbceah.Clock) : Once (Vbceah.lesserIn r p c) := by
  unfold Once
  rw [lesser_keys]
  split
  · exact h
  · rename_i m
    rw [List.nodup_append]
    exact ⟨h, List.nodup_cons.mpr ⟨fun z => (nomatch z), List.nodup_nil⟩, fun a ha b hb => by rw [List.mem_singleton.mp hb]; exact fun z => m (z ▸ ha)⟩
theorem find_none {r : Vbceah.Reach} {p : List Nat} (h : r.find? (fun y => decide (y.1 = p)) = none) : ∀ x ∈ r, x.1 ≠ p := fun x hx z => by
  have := List.find?_eq_none.mp h x hx
  simp [z] at this
theorem put_new {H : Hp} {kvs : List (List L2.Key × V)} {r : Vbceah.Reach} {p : List Nat} {q : Addr} {c : Vbceah.Clock} (h : Paired (EntryAt H) kvs r) (hr : ∀ x ∈ r, x.1 ≠ p) (hc : ClockAt H q c) :
    Paired (EntryAt H) (putK kvs (keyOf p) (.ref q)) (Vbceah.lesserIn r p c) := by
  rw [putK_new _ (val_none h hr), lesser_new hr]
  exact Paired.snoc h ⟨rfl, q, rfl, hc⟩
theorem map_same {H : Hp} {p : List Nat} {v : V} : ∀ {kvs : List (List L2.Key × V)} {r : Vbceah.Reach}, Paired (EntryAt H) kvs r → (∀ x ∈ r, x.1 ≠ p) → (kvs.map fun kv => if kv.1 = keyOf p then (kv.1, v) else kv) = kvs
  | _, _, .nil, _ => rfl
  | _, _, .cons h t, hr => by
    rw [List.map_cons, if_neg (fun z => hr _ (List.mem_cons_self ..) (keyOf_inj (h.1.symm.trans z))), map_same t fun x hx => hr x (List.mem_cons_of_mem _ hx)]
theorem map_put {H : Hp} {p : List Nat} {q : Addr} {c : Vbceah.Clock} (hc : ClockAt H q c) : ∀ {kvs : List (List L2.Key × V)} {r : Vbceah.Reach} {x : Stand}, Paired (EntryAt H) kvs r → Once r → r.find? (fun y => decide (y.1 = p)) = some x → c.two < x.2.two →
    Paired (EntryAt H) (kvs.map fun kv => if kv.1 = keyOf p then (kv.1, V.ref q) else kv) (Vbceah.lesserIn r p c)
  | _, _, _, .nil, _, h, _ => by cases h
  | kv :: _, y :: l, x, .cons h t, hn, hf, hl => by
    rw [List.find?_cons] at hf
    unfold Once at hn
    rw [List.map_cons, List.nodup_cons] at hn
    show Paired _ _ (if y.1 = p then (if c.two < y.2.two then (p, c) :: l else y :: l) else y :: Vbceah.lesserIn l p c)
    rw [List.map_cons]
    by_cases e : y.1 = p
    · rw [decide_eq_true e] at hf
      have e2 : y = x := Option.some.inj hf
      subst e2
      rw [if_pos e, if_pos hl, if_pos (h.1.trans (by rw [e])), map_same t (fun z hz ez => hn.1 (by rw [e, ← ez]; exact List.mem_map_of_mem hz))]
      exact .cons ⟨h.1.trans (by rw [e]), q, rfl, hc⟩ t
    · rw [decide_eq_false e] at hf
      rw [if_neg e, if_neg (fun z => e (keyOf_inj (h.1.symm.trans z)))]
      exact .cons h (map_put hc t hn.2 hf hl)
theorem put_less {H : Hp} {kvs : List (List L2.Key × V)} {r : Vbceah.Reach} {p : List Nat} {q : Addr} {c : Vbceah.Clock} {x : Stand} (h : Paired (EntryAt H) kvs r) (hn : Once r) (hf : r.find? (fun y => decide (y.1 = p)) = some x) (hl : c.two < x.2.two) (hc : ClockAt H q c) :
    Paired (EntryAt H) (putK kvs (keyOf p) (.ref q)) (Vbceah.lesserIn r p c) := by
  obtain ⟨c0, hv, _⟩ := val_some h hf
  have e : putK kvs (keyOf p) (V.ref q) = kvs.map fun kv => if kv.1 = keyOf p then (kv.1, V.ref q) else kv := by
    unfold putK
    have a : (kvs.any fun kv => decide (kv.1 = keyOf p)) = true := by rw [valV_any, hv]; rfl
    first | rw [if_pos a] | simp only [a, if_true]
  rw [e]
  exact map_put hc h hn hf hl
end Rm

set_option Elab.async false
set_option linter.all false
set_option maxRecDepth 100000
set_option maxHeartbeats 4000000
/-! One sheet on: the table behind one sheet more. -/
namespace Rm
open PySem PySem.Spec PyProof.Rows L2
/-- what a changed dict doesn't touch -/
def Safe {α : Type} (P : Shape α) : Prop := ∀ (H : Hp) (a d : Addr) (x : α) (u : List (List L2.Key × V)) (o : HO), (H d = some (.dT u) ∨ ∃ ob, H d = some (.frz ob (.dT u))) → P H a x → P (upd H d o) a x
theorem safe_tup {H : Hp} {a d : Addr} {xs : List V} {u : List (List L2.Key × V)} {o : HO} (hd : H d = some (.dT u) ∨ ∃ ob, H d = some (.frz ob (.dT u))) (h : H a = some (.tup xs)) : upd H d o a = some (.tup xs) := by
  rcases hd with hd | ⟨ob, hd⟩
  · rw [upd_ne (ne_of h hd (fun z => nomatch z))]; exact h
  · rw [upd_ne (ne_of h hd (fun z => nomatch z))]; exact h
theorem safe_lst {H : Hp} {a d : Addr} {xs : List V} {u : List (List L2.Key × V)} {o : HO} (hd : H d = some (.dT u) ∨ ∃ ob, H d = some (.frz ob (.dT u))) (h : H a = some (.lst xs)) : upd H d o a = some (.lst xs) := by
  rcases hd with hd | ⟨ob, hd⟩
  · rw [upd_ne (ne_of h hd (fun z => nomatch z))]; exact h
  · rw [upd_ne (ne_of h hd (fun z => nomatch z))]; exact h
theorem LstOf.safe {α : Type} {P : Shape α} (h : Safe P) : Safe (LstOf P) := fun _ _ _ _ _ _ hd ⟨as, h1, h2⟩ => ⟨as, safe_lst hd h1, Paired.mapP h2 fun _ _ q => h _ _ _ _ _ _ hd q⟩
theorem PairAt.safe : Safe PairAt := fun _ _ _ _ _ _ hd h => safe_tup hd h
theorem SheetAt.safe : Safe SheetAt := fun _ _ _ _ _ _ hd h => safe_tup hd h
theorem ClockAt.safe : Safe ClockAt := fun _ _ _ _ _ _ hd h => safe_tup hd h
theorem NumsAt.safe : Safe NumsAt := fun _ _ _ _ _ _ hd h => safe_tup hd h
theorem BreaksAt.safe : Safe BreaksAt := LstOf.safe PairAt.safe
theorem BooksAt.safe : Safe BooksAt := LstOf.safe (LstOf.safe SheetAt.safe)
theorem EmptAt.safe : Safe EmptAt := fun _ _ _ _ _ _ hd ⟨p, q, h1, h2, h3⟩ => ⟨p, q, safe_lst hd h1, BreaksAt.safe _ _ _ _ _ _ hd h2, BreaksAt.safe _ _ _ _ _ _ hd h3⟩
theorem StandAt.safe : Safe StandAt := fun _ _ _ _ _ _ hd ⟨p, c, h1, h2, h3⟩ => ⟨p, c, safe_tup hd h1, NumsAt.safe _ _ _ _ _ _ hd h2, ClockAt.safe _ _ _ _ _ _ hd h3⟩
theorem EntryAt.safe {H : Hp} {d : Addr} {u : List (List L2.Key × V)} {o : HO} {kv : List L2.Key × V} {x : Stand} (hd : H d = some (.dT u) ∨ ∃ ob, H d = some (.frz ob (.dT u))) (h : EntryAt H kv x) : EntryAt (upd H d o) kv x := by
  obtain ⟨h1, c, h2, h3⟩ := h
  exact ⟨h1, c, h2, safe_tup hd h3⟩
/-- a for over the items of a locked dict -/
theorem for_itemsT {d : Addr} {o : Obj} {kvs : List (List L2.Key × V)} {g : TG} {tb : TS} {D : Ends} {σ : L2.St} {H : Hp} (Pv : Nat → L2.St → Hp → Prop) (h0 : Pv 0 σ H)
    (hl : ∀ i σ H, i ≤ kvs.length → Pv i σ H → H d = some (.frz o (.dT kvs)))
    (hs : ∀ i k v T q σ H, kvs[i]? = some (k, v) → H T = none → H q = some (.tup (k.map kV)) → Pv i σ H → g (.ref T) σ (upd H T (.tup [.ref q, v])) fun σ2 H2 => tb { D with nx := Pv (i + 1), ct := Pv (i + 1), bk := D.nx } σ2 H2)
    (hd : ∀ σ H, Pv kvs.length σ H → D.nx σ H) :
    ∃ W : Nat → Nat → L2.St → Hp → Prop, (∃ m, W 0 m σ H) ∧ ∀ i m σ H, W i m σ H →
      ((Rx.ItP d o kvs).stop i H ∧ D.nx σ H) ∨ ((Rx.ItP d o kvs).go i H ∧ ∃ N : L2.St → Hp → Prop, (∀ σ' H', N σ' H' → ∃ m', m' < m ∧ W (i + 1) m' σ' H') ∧ ∀ x H', (Rx.ItP d o kvs).yld i H x H' → g x σ H' fun σ2 H2 => tb { D with nx := N, ct := N, bk := D.nx } σ2 H2) := by
  refine ⟨fun i m σ H => m = kvs.length - i ∧ i ≤ kvs.length ∧ Pv i σ H, ⟨kvs.length, by omega, Nat.zero_le _, h0⟩, ?_⟩
  rintro i m σ H ⟨rfl, hi, p⟩
  have q := hl i σ H hi p
  by_cases hlt : i < kvs.length
  · refine .inr ⟨⟨q, hlt⟩, Pv (i + 1), fun σ' H' p' => ⟨kvs.length - (i + 1), by omega, rfl, hlt, p'⟩, fun x H' y => ?_⟩
    obtain ⟨T, q', k, v, e1, rfl, e3, e4, rfl⟩ := y
    exact hs i k v T q' σ H e1 e3 e4 p
  · have e : i = kvs.length := by omega
    subst e
    exact .inl ⟨⟨q, Nat.le_refl _⟩, hd σ H p⟩
theorem putAll_succ (bs : List Vbceah.Book) (e1 e2 : Vbceah.Breaks) (x : Stand) (m : Vbceah.Reach) (j : Nat) : putAll bs e1 e2 x m (List.range (j + 1)) = put1 bs e1 e2 x (putAll bs e1 e2 x m (List.range j)) j := by
  unfold putAll
  rw [List.range_succ, List.foldl_append]
  rfl
def tillR (bs : List Vbceah.Book) (e1 e2 : Vbceah.Breaks) (r : Vbceah.Reach) : Vbceah.Reach := r.foldl (fun m x => putAll bs e1 e2 x m (List.range bs.length)) []
theorem tillR_succ {bs : List Vbceah.Book} {e1 e2 : Vbceah.Breaks} {r : Vbceah.Reach} {i : Nat} {x : Stand} (h : r[i]? = some x) : tillR bs e1 e2 (r.take (i + 1)) = putAll bs e1 e2 x (tillR bs e1 e2 (r.take i)) (List.range bs.length) := by
  unfold tillR
  rw [take_get h, List.foldl_append]
  rfl
theorem lesser_len (p : List Nat) (c : Vbceah.Clock) : ∀ r : Vbceah.Reach, (Vbceah.lesserIn r p c).length ≤ r.length + 1
  | [] => Nat.le_refl _
  | x :: l => by
    show (if x.1 = p then (if c.two < x.2.two then (p, c) :: l else x :: l) else x :: Vbceah.lesserIn l p c).length ≤ _
    by_cases e : x.1 = p
    · rw [if_pos e]
      split <;> simp
    · rw [if_neg e]
      have := lesser_len p c l
      simp only [List.length_cons]
      omega
section
variable {P : Program} {w : World} {K : PySem.W.Frag} {mg : Str → Option Value} {base : Heap}
def spSheetOn : Sp := fun vs H Q _ => ∃ (ba ea ka : Addr) (bs : List Vbceah.Book) (e1 e2 : Vbceah.Breaks) (r : Vbceah.Reach), vs = [.ref ba, .ref ea, .ref ka] ∧ BooksAt H ba bs ∧ EmptAt H ea (e1, e2) ∧ TableAt H ka r ∧ Up e1 ∧ Up e2 ∧
  bs.length ≤ 1000 ∧ r.length * bs.length ≤ sizeLine ∧ (∀ x ∈ r, Fit bs e1 x) ∧ ∀ H' p, Same H H' → TableAt H' p (Vbceah.further bs e1 e2 r) → Once (Vbceah.further bs e1 e2 r) → Q (.ref p) H'
abbrev sSheetOn : Stmt := topS 7
abbrev nSheetOn : List Str := ["books", "empties", "kept", "behind", "standing", "book", "further", "taken", "clocks"]
theorem scSheetOn : FnScope nSheetOn ["books", "empties", "kept"] (C8.fnScope sSheetOn) := C8.fnScope_by (by decide +kernel)
/-- a turn of the inner walk: the table behind the j-th book -/
structure Turn1 (H0 : Hp) (L : Addr) (bs : List Vbceah.Book) (e1 e2 : Vbceah.Breaks) (n : Nat) (m : Vbceah.Reach) (H' : Hp) : Prop where
  same : Same H0 H'
  tab : ∃ mk, H' L = some (.dT mk) ∧ Paired (EntryAt H') mk m
  once : Once m
  len : m.length ≤ n
theorem cal_sheetOn (h : Has K mg "one_sheet_on" ["books", "empties", "kept"] sSheetOn) (T : Own mg) (B : C8.Cal P w K mg base 3 "standing_behind" spBehind []) : C8.Cal P w K mg base 4 "one_sheet_on" spSheetOn [] := by
  obtain ⟨f, fd, D, b⟩ := h
  refine C8.cal0 D b .nil scSheetOn (fun vs H Q E h => ?_) fun cdv A outer s H vs Q E hr h => ⟨_,
    pss_cons (ps_set (i := 3) scSheetOn.nd rfl (.inl rfl) pe_dnewT)
    (pss_cons (ps_lock (ps_for PassesOwn.never rfl (Rx.pi_itemsT (pv 2)) (pg_name (i := 4) scSheetOn.nd rfl (.inl rfl))
      (pss_one (ps_for PassesOwn.never rfl (pi_range1 (by rfl) T.range (pa_cons (pe_callB call_len_seq (by rfl) T.len PySem.boot_len (pa_cons (pv 0) pa_nil)) pa_nil)) (pg_name (i := 5) scSheetOn.nd rfl (.inl rfl))
        (pss_cons (ps_set (i := 6) scSheetOn.nd rfl (.inl rfl) (C8.pe_c B hr (by decide) (by rfl) (pa_cons (pv 0) (pa_cons (pv 1) (pa_cons (pv 4) (pa_cons (pv 5) pa_nil))))))
        (pss_one (ps_if (pt_cmpR op_notN (pv 6) pe_non (nomark _))
          (pss_cons (ps_asg (pv 6) (pg_tup rfl (pgs_cons (pg_name (i := 7) scSheetOn.nd rfl (.inl rfl)) (pgs_cons (pg_name (i := 8) scSheetOn.nd rfl (.inl rfl)) pgs_nil))))
          (pss_one (ps_if (PW.pt (pw_or (pt_cmp (pc_dnotin (hu_of hr) (pv 7) (pv 3))) (pw_or1 (pt_cmpR op_lt (pe_ix ix_tup (pv 8) pe_int (fun _ _ => rfl)) (pe_ix ix_tup (pe_dget (hu_of hr) (pv 3) (pv 7) (fun _ _ => rfl)) pe_int (fun _ _ => rfl)) (nomark _)))))
            (pss_one (ps_dput (hu_of hr) (pv 3) (pv 7) (pv 8) rfl)) pss_nil)))
          pss_nil)))))))
    (pss_one (ps_ret (pv 3)))), ?_⟩
  · obtain ⟨ba, ea, ka, bs, e1, e2, r, rfl, _⟩ := h
    rfl
  obtain ⟨ba, ea, ka, bs, e1, e2, r, rfl, hB, hE, ⟨kvs, hk, hP⟩, u1, u2, h4, hz, hF, k⟩ := h
  have elen : kvs.length = r.length := Paired.length hP
  refine fun L hL => ?_
  have nLk : ka ≠ L := ne_of_none hk hL
  refine ⟨ka, .dT kvs, same_new hL _ _ hk, trivial, fun od => ?_⟩
  -- the heap while the dict is locked, without what is new
  have hB0 : BooksAt (upd H ka (.frz od (.dT kvs))) ba bs := BooksAt.safe _ _ _ _ _ _ (.inl hk) hB
  have hE0 : EmptAt (upd H ka (.frz od (.dT kvs))) ea (e1, e2) := EmptAt.safe _ _ _ _ _ _ (.inl hk) hE
  have hP0 : Paired (EntryAt (upd H ka (.frz od (.dT kvs)))) kvs r := Paired.mapP hP fun _ _ q => EntryAt.safe (.inl hk) q
  have hL0 : upd H ka (.frz od (.dT kvs)) L = none := by rw [upd_ne (fun z => nLk z.symm)]; exact hL
  have hk0 : upd H ka (.frz od (.dT kvs)) ka = some (.frz od (.dT kvs)) := upd_same
  have s0 : Same (upd H ka (.frz od (.dT kvs))) (upd (upd H L (.dT [])) ka (.frz od (.dT kvs))) := fun b o e => by
    by_cases c : b = ka
    · rw [c, upd_same] at e ⊢
      exact e
    · rw [upd_ne c] at e ⊢
      exact same_new hL _ _ e
  have back : ∀ H' : Hp, Same (upd H ka (.frz od (.dT kvs))) H' → Same H (upd H' ka (.dT kvs)) := fun H' s b o e => by
    by_cases c : b = ka
    · rw [c] at e ⊢
      rw [upd_same, ← hk]
      exact e
    · rw [upd_ne c]
      exact s b o (by rw [upd_ne c]; exact e)
  generalize upd H ka (.frz od (.dT kvs)) = H0 at hB0 hE0 hP0 hL0 hk0 s0 back
  refine ⟨_, rfl, ka, od, kvs, rfl, s0 _ _ hk0, for_itemsT (d := ka) (o := od) (kvs := kvs) (fun i σ H' => ∃ v1 v2 v3 v4 v5 : Option V, σ = [some (.ref ba), some (.ref ea), some (.ref ka), some (.ref L), v1, v2, v3, v4, v5] ∧
      Turn1 H0 L bs e1 e2 (i * bs.length) (tillR bs e1 e2 (r.take i)) H') ⟨none, none, none, none, none, rfl, ?_⟩ (fun i σ H' _ ⟨_, _, _, _, _, _, t⟩ => t.same _ _ hk0) ?_ ?_⟩
  · refine ⟨s0, ⟨[], ?_, .nil⟩, List.nodup_nil, Nat.zero_le _⟩
    rw [upd_ne (fun z => nLk z.symm), upd_same]
  · rintro i key v Tp q σ H' hi hTp hq ⟨v1, v2, v3, v4, v5, rfl, ⟨s5, ⟨mk, hm1, hm2⟩, ho, hlen⟩⟩
    -- the entry that is walked
    obtain ⟨x, hx, hEn⟩ : ∃ x, r[i]? = some x ∧ EntryAt H0 (key, v) x := by
      have a1 : i < kvs.length := (List.getElem?_eq_some_iff.mp hi).1
      obtain ⟨b1, hb1, hb2⟩ := L2.paired_get hP0 hi
      exact ⟨b1, hb1, hb2⟩
    obtain ⟨hkey, cx, rfl, hcx⟩ := hEn
    have hkey' : key = keyOf x.1 := hkey
    subst hkey'
    rw [keyOf_kV] at hq
    have hFx := hF x (List.mem_of_getElem? hx)
    have sT := same_new (o := .tup [.ref q, .ref cx]) hTp
    have hSx : StandAt (upd H' Tp (.tup [.ref q, .ref cx])) Tp x := ⟨q, cx, upd_same, sT _ _ hq, sT _ _ (s5 _ _ hcx)⟩
    have t0 : Turn1 H0 L bs e1 e2 (i * bs.length + 0) (putAll bs e1 e2 x (tillR bs e1 e2 (r.take i)) (List.range 0)) (upd H' Tp (.tup [.ref q, .ref cx])) :=
      ⟨s5.trans sT, ⟨mk, sT _ _ hm1, Paired.mapP hm2 fun _ _ e => EntryAt.stays sT e⟩, ho, hlen⟩
    have szi : (i + 1) * bs.length ≤ sizeLine := Nat.le_trans (Nat.mul_le_mul_right _ (by have := (List.getElem?_eq_some_iff.mp hx).1; omega)) hz
    have hT0 : ∀ b o, H0 b = some o → b ≠ Tp := fun b o e z => by
      have := s5 b o e
      rw [z, hTp] at this
      cases this
    generalize upd H' Tp (.tup [.ref q, .ref cx]) = H1 at hSx t0
    obtain ⟨as, hba, hbp⟩ := hB0
    have eb : (as.map V.ref).length = bs.length := by rw [List.length_map]; exact Paired.length hbp
    refine ⟨_, rfl, ba, _, rfl, .inl (.inl (.inl (t0.same _ _ hba))), bs.length, by rw [eb], by omega, by omega, ?_⟩
    refine for_range (lo := 0) (n := bs.length) (fun j σ H' => ∃ v2 v3 v4 v5 : Option V, σ = [some (.ref ba), some (.ref ea), some (.ref ka), some (.ref L), some (.ref Tp), v2, v3, v4, v5] ∧ StandAt H' Tp x ∧
      Turn1 H0 L bs e1 e2 (i * bs.length + j) (putAll bs e1 e2 x (tillR bs e1 e2 (r.take i)) (List.range j)) H') ⟨v2, v3, v4, v5, rfl, hSx, t0⟩ ?_ ?_
    · rintro j σ H2 hj ⟨w2, w3, w4, w5, rfl, hS2, ⟨s6, ⟨mk2, hn1, hn2⟩, ho2, hlen2⟩⟩
      have hlt : i * bs.length + j < sizeLine := by rw [Nat.succ_mul] at szi; omega
      have ej : ((0 : Int) + (j : Nat)) = ((j : Nat) : Int) := by omega
      refine ⟨_, rfl, _, rfl, _, rfl, _, rfl, ?_⟩
      refine ⟨ba, ea, Tp, j, bs, e1, e2, x, by rw [ej] <;> rfl, BooksAt.stays _ _ _ _ s6 ⟨as, hba, hbp⟩, EmptAt.stays _ _ _ _ s6 hE0, hS2, u1, u2, hj, hFx.len, h4, hFx.le j hj, fun z H3 g3 => ?_, fun y hy H3 p3 g3 hy3 => ?_⟩
      · refine ⟨_, rfl, rfl, _, rfl, iteF ?_⟩
        refine ⟨_, _, _, _, rfl, StandAt.stays _ _ _ _ g3 hS2, s6.trans g3, ⟨mk2, g3 _ _ hn1, ?_⟩, ?_, ?_⟩
        · rw [putAll_succ]
          unfold put1
          rw [z]
          exact Paired.mapP hn2 fun _ _ e => EntryAt.stays g3 e
        · rw [putAll_succ]
          unfold put1
          rw [z]
          exact ho2
        · rw [putAll_succ]
          unfold put1
          rw [z]
          exact Nat.le_succ_of_le hlen2
      · have hn3 := g3 _ _ hn1
        have hn4 : Paired (EntryAt H3) mk2 _ := Paired.mapP hn2 fun _ _ e => EntryAt.stays g3 e
        have hS3 := StandAt.stays _ _ _ _ g3 hS2
        have s7 := s6.trans g3
        obtain ⟨py, cy, hy1, hy2, hy4⟩ := hy3
        have ep : putAll bs e1 e2 x (tillR bs e1 e2 (r.take i)) (List.range (j + 1)) = Vbceah.lesserIn (putAll bs e1 e2 x (tillR bs e1 e2 (r.take i)) (List.range j)) y.1 y.2 := by
          rw [putAll_succ]
          unfold put1
          rw [hy]
        generalize putAll bs e1 e2 x (tillR bs e1 e2 (r.take i)) (List.range j) = m at ho2 hlen2 hn4 ep hn2
        have hpy : H3 py = some (.tup ((keyOf y.1).map kV)) := by rw [keyOf_kV]; exact hy2
        refine ⟨_, rfl, rfl, _, rfl, iteT ?_⟩
        refine ⟨_, rfl, p3, _, rfl, .inl (.inl hy1), rfl, _, _, rfl, _, _, rfl, rfl, ?_⟩
        refine ⟨_, rfl, _, rfl, L, _, rfl, DGet.t hn3 hpy, _, rfl, ?_⟩
        -- the store, and what stands behind it
        have fin : Paired (EntryAt H3) (putK mk2 (keyOf y.1) (.ref cy)) (Vbceah.lesserIn m y.1 y.2) → ∃ v2 v3 v4 v5 : Option V,
            ([some (V.ref ba), some (.ref ea), some (.ref ka), some (.ref L), some (.ref Tp), some (.int (0 + (j : Nat))), some (.ref p3), some (.ref py), some (.ref cy)] : L2.St) = [some (.ref ba), some (.ref ea), some (.ref ka), some (.ref L), some (.ref Tp), v2, v3, v4, v5] ∧
            StandAt (upd H3 L (.dT (putK mk2 (keyOf y.1) (.ref cy)))) Tp x ∧ Turn1 H0 L bs e1 e2 (i * bs.length + (j + 1)) (putAll bs e1 e2 x (tillR bs e1 e2 (r.take i)) (List.range (j + 1))) (upd H3 L (.dT (putK mk2 (keyOf y.1) (.ref cy)))) := fun hp => by
          refine ⟨_, _, _, _, rfl, StandAt.safe _ _ _ _ _ _ (.inl hn3) hS3, ?_, ⟨_, upd_same, ?_⟩, ?_, ?_⟩
          · exact fun b o e => by rw [upd_ne (fun z => by rw [z, hL0] at e; cases e)]; exact s7 _ _ e
          · rw [ep]
            exact Paired.mapP hp fun _ _ e => EntryAt.safe (.inl hn3) e
          · rw [ep]
            exact ho2.lesser _ _
          · rw [ep]
            have := lesser_len y.1 y.2 m
            omega
        have lk : mk2.length < sizeLine := by
          have := Paired.length hn4
          omega
        cases hf : m.find? (fun z => decide (z.1 = y.1)) with
        | none =>
          rw [val_none hn4 (find_none hf)]
          refine iteT (iteT ?_)
          refine ⟨_, rfl, _, rfl, _, rfl, L, _, rfl, DPut.t hn3 hpy lk, ?_⟩
          exact fin (put_new hn4 (find_none hf) hy4)
        | some z =>
          obtain ⟨cz, hv, hcz⟩ := val_some hn4 hf
          rw [hv]
          refine iteF ?_
          refine ⟨_, rfl, cy, _, 1, _, rfl, rfl, .inl (.inl hy4), rfl, ?_⟩
          refine ⟨_, rfl, _, rfl, L, _, rfl, (by have g := DGet.t hn3 hpy; rw [hv] at g; exact g), cz, _, 1, _, rfl, rfl, .inl (.inl hcz), rfl, _, _, rfl, rfl, _, rfl, ifB (fun c => ?_) fun c => ?_⟩
          · have c' : y.2.two < z.2.two := by simpa using c
            refine ⟨_, rfl, _, rfl, _, rfl, L, _, rfl, DPut.t hn3 hpy lk, ?_⟩
            exact fin (put_less hn4 ho2 hf c' hy4)
          · have c' : ¬ y.2.two < z.2.two := by simpa using c
            have ek := lesser_keep hf c'
            refine ⟨_, _, _, _, rfl, hS3, s7, ⟨mk2, hn3, ?_⟩, ?_, ?_⟩
            · rw [ep, ek]; exact hn4
            · rw [ep, ek]; exact ho2
            · rw [ep, ek]; omega
    · rintro σ H2 ⟨w2, w3, w4, w5, rfl, hS2, t2⟩
      refine ⟨_, _, _, _, _, rfl, ?_⟩
      rw [tillR_succ hx, Nat.succ_mul]
      exact t2
  · rintro σ H' ⟨v1, v2, v3, v4, v5, rfl, ⟨s5, ⟨mk, hm1, hm2⟩, ho, hlen⟩⟩
    rw [elen, List.take_length] at hm2 ho
    have ef : tillR bs e1 e2 r = Vbceah.further bs e1 e2 r := by rw [further_eq]; rfl
    rw [ef] at hm2 ho
    refine ⟨s5 _ _ hk0, _, rfl, ?_⟩
    have hk' := s5 _ _ hk0
    refine k _ L (back H' s5) ⟨mk, ?_, Paired.mapP hm2 fun _ _ e => EntryAt.safe (.inr ⟨od, hk'⟩) e⟩ ho
    rw [upd_ne (fun z => nLk z.symm)]
    exact hm1
end
end Rm

set_option Elab.async false
set_option linter.all false
set_option maxRecDepth 100000
set_option maxHeartbeats 4000000
/-! The least end from a standing on. -/
namespace Rm
open PySem PySem.Spec PyProof.Rows L2
theorem ix_tupK {X : Cx} (K : PySem.W.Frag) (h : X.K = K := by rfl) : IxR X (rIxT K) := by
  subst h
  exact ix_tup
theorem ix_listK {X : Cx} (K : PySem.W.Frag) (h : X.K = K := by rfl) : IxR X (rIxL K) := by
  subst h
  exact ix_list
theorem reach_succ (bs : List Vbceah.Book) (e1 e2 : Vbceah.Breaks) : ∀ (n : Nat) (r : Vbceah.Reach), Vbceah.reachFrom bs e1 e2 (n + 1) r = Vbceah.further bs e1 e2 (Vbceah.reachFrom bs e1 e2 n r)
  | 0, _ => rfl
  | n + 1, r => by
    show Vbceah.reachFrom bs e1 e2 (n + 1) (Vbceah.further bs e1 e2 r) = Vbceah.further bs e1 e2 (Vbceah.reachFrom bs e1 e2 n (Vbceah.further bs e1 e2 r))
    exact reach_succ bs e1 e2 n _
theorem putAll_len (bs : List Vbceah.Book) (e1 e2 : Vbceah.Breaks) (x : Stand) : ∀ (l : List Nat) (m : Vbceah.Reach), (putAll bs e1 e2 x m l).length ≤ m.length + l.length
  | [], m => Nat.le_refl _
  | b :: l, m => by
    have i := putAll_len bs e1 e2 x l (put1 bs e1 e2 x m b)
    have j : (put1 bs e1 e2 x m b).length ≤ m.length + 1 := by
      unfold put1
      split
      · omega
      · exact lesser_len _ _ _
    show (putAll bs e1 e2 x (put1 bs e1 e2 x m b) l).length ≤ _
    rw [List.length_cons]
    omega
theorem till_len (bs : List Vbceah.Book) (e1 e2 : Vbceah.Breaks) : ∀ (r m : Vbceah.Reach), (r.foldl (fun m x => putAll bs e1 e2 x m (List.range bs.length)) m).length ≤ m.length + r.length * bs.length
  | [], m => by simp
  | x :: r, m => by
    have i := till_len bs e1 e2 r (putAll bs e1 e2 x m (List.range bs.length))
    have j := putAll_len bs e1 e2 x (List.range bs.length) m
    rw [List.length_range] at j
    rw [List.foldl_cons, List.length_cons, Nat.succ_mul]
    omega
theorem further_len (bs : List Vbceah.Book) (e1 e2 : Vbceah.Breaks) (r : Vbceah.Reach) : (Vbceah.further bs e1 e2 r).length ≤ r.length * bs.length := by
  rw [further_eq]
  have := till_len bs e1 e2 r []
  simpa using this
theorem reach_len {bs : List Vbceah.Book} (e1 e2 : Vbceah.Breaks) (h4 : bs.length ≤ 4) (x : Stand) : ∀ n, (Vbceah.reachFrom bs e1 e2 n [x]).length ≤ 4 ^ n
  | 0 => Nat.le_refl _
  | n + 1 => by
    rw [reach_succ, Nat.pow_succ]
    exact Nat.le_trans (further_len bs e1 e2 _) (Nat.mul_le_mul (reach_len e1 e2 h4 x n) h4)
theorem reach_fit {bs : List Vbceah.Book} {e1 e2 : Vbceah.Breaks} (u1 : Up e1) {x : Stand} (F : Fit bs e1 x) {n : Nat} {y : Stand} (h : y ∈ Vbceah.reachFrom bs e1 e2 n [x]) : Fit bs e1 y := by
  obtain ⟨z, hz, P⟩ := mem_reach h
  rw [List.mem_singleton] at hz
  subst hz
  exact P.fit u1 F
def twos (r : Vbceah.Reach) : List Int := r.map fun x => ((x.2.two : Nat) : Int)
theorem min_of {r : Vbceah.Reach} {d : Nat} {m : Int} (hne : r ≠ []) (hm : m ∈ twos r) (hle : ∀ y, y ∈ twos r → m ≤ y) : m = ((minTwo d r : Nat) : Int) := by
  obtain ⟨⟨y, hy, ey⟩, hmin⟩ := minTwo_is (d := d) hne
  unfold twos at hm hle
  obtain ⟨z, hz, rfl⟩ := List.mem_map.mp hm
  have a := hle _ (List.mem_map_of_mem (f := fun x : Stand => ((x.2.two : Nat) : Int)) hy)
  have b := hmin z hz
  have a' : (z.2.two : Int) ≤ (y.2.two : Int) := a
  omega
section
variable {P : Program} {w : World} {K : PySem.W.Frag} {mg : Str → Option Value} {base : Heap}
def spLeast : Sp := fun vs H Q _ => ∃ (ba ea sa : Addr) (bs : List Vbceah.Book) (e1 e2 : Vbceah.Breaks) (x : Stand), vs = [.ref ba, .ref ea, .ref sa] ∧ BooksAt H ba bs ∧ EmptAt H ea (e1, e2) ∧ StandAt H sa x ∧ Up e1 ∧ Up e2 ∧
  Fit bs e1 x ∧ bs.length ≤ 4 ∧ Vbceah.sheetsIn bs ≤ 12 ∧ ∀ H', Same H H' → Q (.int (Vbceah.leastFrom bs e1 e2 x.1 x.2 : Nat)) H'
abbrev sLeast : Stmt := topS 8
abbrev nLeast : List Str := ["books", "empties", "standing", "taken", "clocks", "kept", "sheets_behind", "last"]
theorem scLeast : FnScope nLeast ["books", "empties", "standing"] (C8.fnScope sLeast) := C8.fnScope_by (by decide +kernel)
theorem cal_least (h : Has K mg "least_end" ["books", "empties", "standing"] sLeast) (T : Own mg) (Co : C8.Cal P w K mg base 1 "count_sheets" spCount []) (S : C8.Cal P w K mg base 4 "one_sheet_on" spSheetOn []) : C8.Cal P w K mg base 5 "least_end" spLeast [] := by
  obtain ⟨f, fd, D, b⟩ := h
  refine C8.cal0 D b .nil scLeast (fun vs H Q E h => ?_) fun cdv A outer s H vs Q E hr h => ⟨_,
    pss_cons (ps_asg (pv 2) (pg_tup rfl (pgs_cons (pg_name (i := 3) scLeast.nd rfl (.inl rfl)) (pgs_cons (pg_name (i := 4) scLeast.nd rfl (.inl rfl)) pgs_nil))))
    (pss_cons (ps_set (i := 5) scLeast.nd rfl (.inl rfl) (Rx.pe_disp1 (hu_of hr) (pv 3) (pv 4)))
    (pss_cons (ps_for PassesOwn.never rfl (pi_range2 (by rfl) T.range (pa_cons (pe_callB (Rx.cr_sumT rfl) (by rfl) T.sum (by decide +kernel) (pa_cons (pv 3) pa_nil)) (pa_cons (C8.pe_c Co hr (by decide) (by rfl) (pa_cons (pv 0) pa_nil)) pa_nil))) (pg_name (i := 6) scLeast.nd rfl (.inl rfl))
      (pss_one (ps_set (i := 5) scLeast.nd rfl (.inl rfl) (C8.pe_c S hr (by decide) (by rfl) (pa_cons (pv 0) (pa_cons (pv 1) (pa_cons (pv 5) pa_nil)))))))
    (pss_one (ps_ret (pe_callB (cr_min rfl) (by rfl) T.min (by decide +kernel) (pa_cons (pe_lock (pe_lc (own := [("last", 7)]) (g := gName 7) (by rfl) scLeast.nd (Rx.pi_valsT (pv 5)) (blkOk_by (own := [("last", 7)]) (N := nLeast) (sc := C8.fnScope sLeast) (by decide +kernel))
      (fun _ _ _ _ _ => pg_name (i := 7) scLeast.nd rfl (Or.inl rfl)) (fun _ _ _ _ _ => pts_nil) (fun _ _ _ _ _ => pe_ix (ix_tupK K) (pv 7) pe_int (fun _ _ => rfl)))) pa_nil)))))), ?_⟩
  · obtain ⟨ba, ea, sa, bs, e1, e2, x, rfl, _⟩ := h
    rfl
  obtain ⟨ba, ea, sa, bs, e1, e2, x, rfl, hB, hE, ⟨pa, ca, hS, hN, hC⟩, u1, u2, F, h4, h12, k⟩ := h
  have hsum := F.sum_le
  have hleft := leftOf_sum F
  refine ⟨_, rfl, sa, _, rfl, .inl (.inl hS), rfl, _, _, rfl, _, _, rfl, rfl, ?_⟩
  refine fun kd hkd => ⟨_, rfl, _, rfl, upd_same, keyOf x.1, pa, rfl, ?_, ?_⟩
  · rw [keyOf_kV]
    exact same_new hkd _ _ hN
  rw [upd_upd]
  have s1 := same_new (o := .dT [(keyOf x.1, V.ref ca)]) hkd
  refine ⟨_, rfl, pa, x.1.map fun (n : Nat) => (n : Int), rfl, .inl (.inl ?_), ?_⟩
  · rw [List.map_map]
    exact s1 _ _ hN
  refine ⟨_, rfl, ba, bs, rfl, BooksAt.stays _ _ _ _ s1 hB, by omega, fun H1 g1 => ?_⟩
  have s2 := s1.trans g1
  have es : ∀ l : List Nat, (l.map fun (n : Nat) => (n : Int)).sum = ((l.sum : Nat) : Int) := fun l => by
    induction l with
    | nil => rfl
    | cons a l ih =>
      rw [List.map_cons, List.sum_cons, ih, List.sum_cons]
      omega
  refine ⟨_, _, rfl, by rw [es]; omega, ?_⟩
  refine for_range (n := _) (fun i σ H' => ∃ (kt : Addr) (v : Option V), σ = [some (.ref ba), some (.ref ea), some (.ref sa), some (.ref pa), some (.ref ca), some (.ref kt), v, none] ∧ TableAt H' kt (Vbceah.reachFrom bs e1 e2 i [x]) ∧ Same H H')
    ⟨kd, none, rfl, ⟨_, g1 _ _ upd_same, .cons ⟨rfl, ca, rfl, s2 _ _ hC⟩ .nil⟩, s2⟩ ?_ ?_
  · rintro i σ H' hi ⟨kt, v, rfl, hT, s5⟩
    rw [es] at hi
    refine ⟨_, rfl, _, rfl, _, rfl, ?_⟩
    refine ⟨ba, ea, kt, bs, e1, e2, _, rfl, BooksAt.stays _ _ _ _ s5 hB, EmptAt.stays _ _ _ _ s5 hE, hT, u1, u2, by omega, ?_, fun y hy => reach_fit u1 F hy, fun H2 p2 g2 hT2 _ => ?_⟩
    · have a := reach_len e1 e2 h4 x i
      have c1 : (Vbceah.reachFrom bs e1 e2 i [x]).length * bs.length ≤ 4 ^ i * 4 := Nat.mul_le_mul a h4
      have c2 : 4 ^ i * 4 = 4 ^ (i + 1) := (Nat.pow_succ ..).symm
      have c3 : 4 ^ (i + 1) ≤ 4 ^ 12 := Nat.pow_le_pow_right (by decide) (by omega)
      have c4 : (4 : Nat) ^ 12 = 16777216 := by decide
      rw [sizeLine_eq]
      omega
    · exact ⟨p2, _, rfl, by rw [reach_succ]; exact hT2, s5.trans g2⟩
  · rintro σ H' ⟨kt, v, rfl, ⟨kvs, hk, hP⟩, s5⟩
    have en : (((Vbceah.sheetsIn bs : Nat) : Int) - (x.1.map fun (n : Nat) => (n : Int)).sum).toNat = Vbceah.leftOf bs x.1 := by rw [es]; omega
    rw [en] at hP
    have hne := reach_ne u1 u2 F
    have hlen := reach_len e1 e2 h4 x (Vbceah.leftOf bs x.1)
    have eleast := leastFrom_eq (bs := bs) (e1 := e1) (e2 := e2) x.1 x.2
    have elx : [(x.1, x.2)] = [x] := rfl
    rw [elx] at eleast
    generalize Vbceah.reachFrom bs e1 e2 (Vbceah.leftOf bs x.1) [x] = r at hP hne hlen eleast
    have elen : kvs.length = r.length := Paired.length hP
    have hz : kvs.length ≤ sizeLine := by
      have c3 : 4 ^ (Vbceah.leftOf bs x.1) ≤ 4 ^ 12 := Nat.pow_le_pow_right (by decide) (by omega)
      have c4 : (4 : Nat) ^ 12 = 16777216 := by decide
      rw [sizeLine_eq]
      omega
    refine ⟨kt, .dT kvs, hk, trivial, fun od => ?_⟩
    have hP0 : Paired (EntryAt (upd H' kt (.frz od (.dT kvs)))) kvs r := Paired.mapP hP fun _ _ q => EntryAt.safe (.inl hk) q
    have hk0 : upd H' kt (.frz od (.dT kvs)) kt = some (.frz od (.dT kvs)) := upd_same
    have back : ∀ H2 : Hp, Same (upd H' kt (.frz od (.dT kvs))) H2 → Same H' (upd H2 kt (.dT kvs)) := fun H2 s b o e => by
      by_cases c : b = kt
      · rw [c] at e ⊢
        rw [upd_same, ← hk]
        exact e
      · rw [upd_ne c]
        exact s b o (by rw [upd_ne c]; exact e)
    generalize upd H' kt (.frz od (.dT kvs)) = H0 at hP0 hk0 back
    refine ⟨_, rfl, kt, od, kvs, rfl, hk0, fun Dl hD => Rx.lc_valsT (d := kt) (o := od) (kvs := kvs) (fun i H2 => Same H0 H2 ∧ H2 Dl = some (.lst (((twos r).take i).map V.int))) ⟨same_new hD, upd_same⟩ (fun i H2 _ q => q.1 _ _ hk0) ?_ ?_⟩
    · rintro i key v H2 hi ⟨s6, hD2⟩
      obtain ⟨y, hy, _, c, e, hc⟩ : ∃ y, r[i]? = some y ∧ EntryAt H0 (key, v) y := L2.paired_get hP0 hi
      have e' : v = .ref c := e
      subst e'
      have hlt : i < kvs.length := (List.getElem?_eq_some_iff.mp hi).1
      refine ⟨rfl, _, rfl, c, _, 1, _, rfl, rfl, .inl (.inl (s6 _ _ hc)), rfl, _, hD2, ?_, same_upd s6 hD, ?_⟩
      · rw [List.length_map, List.length_take]
        omega
      · have e2 : (twos r)[i]? = some ((y.2.two : Nat) : Int) := by unfold twos; rw [List.getElem?_map, hy]; rfl
        rw [upd_same, take_get e2, List.map_append]
        rfl
    · rintro H2 ⟨s6, hD2⟩
      have nD : Dl ≠ kt := fun z => by rw [z, hk0] at hD; cases hD
      have lt : (twos r).length = kvs.length := by unfold twos; rw [List.length_map, elen]
      rw [← lt, List.take_length] at hD2
      refine ⟨s6 _ _ hk0, Dl, twos r, rfl, .inl (.inl (by rw [upd_ne nD]; exact hD2)), ?_, fun m hm hle => ?_⟩
      · rw [lt, elen]
        exact List.length_pos_iff.mpr hne
      · have q := k _ (s5.trans (back H2 s6))
        rw [eleast, ← min_of hne hm hle] at q
        exact q
end
end Rm

set_option Elab.async false
set_option linter.all false
set_option maxRecDepth 100000
set_option maxHeartbeats 4000000
/-! The first order with the least end; how many orders. -/
namespace Rm
open PySem PySem.Spec PyProof.Rows L2
section
variable {P : Program} {w : World} {K : PySem.W.Frag} {mg : Str → Option Value} {base : Heap}
def spLeads : Sp := fun vs H Q _ => ∃ (g b : Nat) (ba ea sa : Addr) (bs : List Vbceah.Book) (e1 e2 : Vbceah.Breaks) (x : Stand), vs = [.int g, .ref ba, .ref ea, .ref sa, .int b] ∧ BooksAt H ba bs ∧ EmptAt H ea (e1, e2) ∧ StandAt H sa x ∧ Up e1 ∧ Up e2 ∧
  Fit bs e1 x ∧ bs.length ≤ 4 ∧ Vbceah.sheetsIn bs ≤ 12 ∧ b < bs.length ∧ ∀ H', Same H H' → Q (.bl (leads bs e1 e2 g x b)) H'
abbrev sLeads : Stmt := topS 9
abbrev nLeads : List Str := ["goal", "books", "empties", "standing", "book", "further"]
theorem scLeads : FnScope nLeads ["goal", "books", "empties", "standing", "book"] (C8.fnScope sLeads) := C8.fnScope_by (by decide +kernel)
theorem cal_leads (h : Has K mg "leads_to" ["goal", "books", "empties", "standing", "book"] sLeads) (B : C8.Cal P w K mg base 3 "standing_behind" spBehind []) (Le : C8.Cal P w K mg base 5 "least_end" spLeast []) : C8.Cal P w K mg base 6 "leads_to" spLeads [] := by
  obtain ⟨f, fd, D, b⟩ := h
  refine C8.cal0 D b .nil scLeads (fun vs H Q E h => ?_) fun cdv A outer s H vs Q E hr h => ⟨_,
    pss_cons (ps_set (i := 5) scLeads.nd rfl (.inl rfl) (C8.pe_c B hr (by decide) (by rfl) (pa_cons (pv 1) (pa_cons (pv 2) (pa_cons (pv 3) (pa_cons (pv 4) pa_nil))))))
    (pss_one (ps_ret (pe_and (pe_cmpR op_notN (pv 5) pe_non (nomark _)) (pe_one (pe_cmpR op_eq (C8.pe_c Le hr (by decide) (by rfl) (pa_cons (pv 1) (pa_cons (pv 2) (pa_cons (pv 5) pa_nil)))) (pv 0) (nomark _)))))), ?_⟩
  · obtain ⟨g, b, ba, ea, sa, bs, e1, e2, x, rfl, _⟩ := h
    rfl
  obtain ⟨g, b, ba, ea, sa, bs, e1, e2, x, rfl, hB, hE, hS, u1, u2, F, h4, h12, hb, k⟩ := h
  refine ⟨_, rfl, _, rfl, _, rfl, _, rfl, ?_⟩
  refine ⟨ba, ea, sa, b, bs, e1, e2, x, rfl, hB, hE, hS, u1, u2, hb, F.len, by omega, F.le b hb, fun z H1 g1 => ?_, fun y hy H1 p1 g1 hS1 => ?_⟩
  · refine ⟨_, rfl, rfl, _, rfl, iteF ?_⟩
    have q := k H1 g1
    unfold leads at q
    rw [z] at q
    exact q
  · refine ⟨_, rfl, rfl, _, rfl, iteT ?_⟩
    refine ⟨_, rfl, _, rfl, _, rfl, ba, ea, p1, bs, e1, e2, y, rfl, BooksAt.stays _ _ _ _ g1 hB, EmptAt.stays _ _ _ _ g1 hE, hS1, u1, u2, F.next u1 hb hy, h4, h12, fun H2 g2 => ?_⟩
    refine ⟨_, rfl, rfl, ?_⟩
    have q := k H2 (g1.trans g2)
    unfold leads at q
    rw [hy] at q
    have e : (decide (V.int ((Vbceah.leastFrom bs e1 e2 y.1 y.2 : Nat) : Int) = V.int (g : Int))) = (Vbceah.leastFrom bs e1 e2 y.1 y.2 == g) := by
      by_cases c : Vbceah.leastFrom bs e1 e2 y.1 y.2 = g
      · rw [c, beq_self_eq_true, decide_eq_true rfl]
      · rw [beq_eq_false_iff_ne.mpr c, decide_eq_false (fun z => c (Int.ofNat_inj.mp (V.int.inj z)))]
    rw [e]
    exact q
/-! ### first_best_order -/
def spBest : Sp := fun vs H Q _ => ∃ (ba ea : Addr) (bs : List Vbceah.Book) (e1 e2 : Vbceah.Breaks), vs = [.ref ba, .ref ea] ∧ BooksAt H ba bs ∧ EmptAt H ea (e1, e2) ∧ Up e1 ∧ Up e2 ∧
  bs.length ≤ 4 ∧ Vbceah.sheetsIn bs ≤ 12 ∧ ∀ H' p, Same H H' → OrderAt H' p (Vbceah.best bs e1 e2) → Q (.ref p) H'
abbrev sBest : Stmt := topS 10
abbrev nBest : List Str := ["books", "empties", "standing", "goal", "order", "book"]
theorem scBest : FnScope nBest ["books", "empties"] (C8.fnScope sBest) := C8.fnScope_by (by decide +kernel)
theorem cal_best (h : Has K mg "first_best_order" ["books", "empties"] sBest) (T : Own mg) (F1 : C8.Cal P w K mg base 1 "first_standing" spFirst []) (Co : C8.Cal P w K mg base 1 "count_sheets" spCount []) (B : C8.Cal P w K mg base 3 "standing_behind" spBehind [])
    (Le : C8.Cal P w K mg base 5 "least_end" spLeast []) (Ld : C8.Cal P w K mg base 6 "leads_to" spLeads []) : C8.Cal P w K mg base 7 "first_best_order" spBest [] := by
  obtain ⟨f, fd, D, b⟩ := h
  refine C8.cal0 D b .nil scBest (fun vs H Q E h => ?_) fun cdv A outer s H vs Q E hr h => ⟨_,
    pss_cons (ps_set (i := 2) scBest.nd rfl (.inl rfl) (C8.pe_c F1 hr (by decide) (by rfl) (pa_cons (pv 0) pa_nil)))
    (pss_cons (ps_set (i := 3) scBest.nd rfl (.inl rfl) (C8.pe_c Le hr (by decide) (by rfl) (pa_cons (pv 0) (pa_cons (pv 1) (pa_cons (pv 2) pa_nil)))))
    (pss_cons (ps_set (i := 4) scBest.nd rfl (.inl rfl) (pe_lst pa_nil))
    (pss_cons (ps_while PassesOwn.never (pt_cmpR op_lt (pe_callB call_len_seq (by rfl) T.len PySem.boot_len (pa_cons (pv 4) pa_nil)) (C8.pe_c Co hr (by decide) (by rfl) (pa_cons (pv 0) pa_nil)) (nomark _))
      (pss_cons (ps_set (i := 5) scBest.nd rfl (.inl rfl) pe_int)
      (pss_cons (ps_while PassesOwn.never (pt_not (pt_val (C8.pe_c Ld hr (by decide) (by rfl) (pa_cons (pv 3) (pa_cons (pv 0) (pa_cons (pv 1) (pa_cons (pv 2) (pa_cons (pv 5) pa_nil))))))))
        (pss_one (ps_aug (i := 5) scBest.nd rfl (.inl rfl) pe_int ip_add)))
      (pss_cons (ps_expr (pe_bm PySem.F.plainAttrs_list PySem.F.slot_list_append PySem.F.type_list_append mt_append (pv 4) (pa_cons (pv 5) pa_nil)))
      (pss_one (ps_set (i := 2) scBest.nd rfl (.inl rfl) (C8.pe_c B hr (by decide) (by rfl) (pa_cons (pv 0) (pa_cons (pv 1) (pa_cons (pv 2) (pa_cons (pv 5) pa_nil)))))))))))
    (pss_one (ps_ret (pv 4)))))), ?_⟩
  · obtain ⟨ba, ea, bs, e1, e2, rfl, _⟩ := h
    rfl
  obtain ⟨ba, ea, bs, e1, e2, rfl, hB, hE, u1, u2, h4, h12, k⟩ := h
  refine ⟨_, rfl, ba, bs, rfl, hB, by omega, fun H1 sp g1 hS => ?_⟩
  refine ⟨_, rfl, _, rfl, _, rfl, ba, ea, sp, bs, e1, e2, _, rfl, BooksAt.stays _ _ _ _ g1 hB, EmptAt.stays _ _ _ _ g1 hE, hS, u1, u2, fit_first, h4, h12, fun H2 g2 => ?_⟩
  refine ⟨(by show 0 ≤ sizeLine; decide), fun L hL => ?_⟩
  have hL0 : H L = none := g1.free (g2.free hL)
  refine ⟨fun m σ H' => ∃ (o : List Nat) (q : Addr) (x : Stand) (v : Option V), m = Vbceah.sheetsIn bs - o.length ∧ σ = [some (.ref ba), some (.ref ea), some (.ref q), some (.int (Vbceah.least bs e1 e2 : Nat)), some (.ref L), v] ∧
      StandAt H' q x ∧ Fit bs e1 x ∧ x.1.sum = o.length ∧ Vbceah.leastFrom bs e1 e2 x.1 x.2 = Vbceah.least bs e1 e2 ∧ OrderAt H' L o ∧
      o ++ Vbceah.bestFrom bs e1 e2 (Vbceah.least bs e1 e2) (Vbceah.sheetsIn bs - o.length) x.1 x.2 = Vbceah.best bs e1 e2 ∧ Same H H', ?_, ?_⟩
  · refine ⟨_, [], sp, first0 bs, none, rfl, rfl, StandAt.stays _ _ _ _ (g2.trans (same_new hL)) hS, fit_first, ?_, rfl, upd_same, rfl, same_upd (g1.trans g2) hL0⟩
    show (Vbceah.zeros bs.length).sum = 0
    unfold Vbceah.zeros
    rw [List.sum_replicate_nat]
    omega
  · rintro m σ H' ⟨o, q, x, v, rfl, rfl, hSx, F, hsum, hgoal, hO, hbest, s5⟩
    refine ⟨_, rfl, L, _, rfl, .inl (.inl (.inl hO)), _, rfl, ba, bs, rfl, BooksAt.stays _ _ _ _ s5 hB, by omega, fun H3 g3 => ?_⟩
    refine ⟨_, _, rfl, rfl, _, rfl, ?_⟩
    rw [nats_len]
    have s6 := s5.trans g3
    refine ifB (fun c => ?_) fun c => ?_
    · have c' : o.length < Vbceah.sheetsIn bs := by simpa using c
      obtain ⟨B0, y, hb, hy, hlead, hfirst, hgy, hbf⟩ := best_step (e2 := e2) u1 u2 F (by omega) hgoal
      refine ⟨fun σ' H4 => ∃ (o' : List Nat) (q' : Addr) (x' : Stand) (v' : Option V), o'.length = o.length + 1 ∧ σ' = [some (.ref ba), some (.ref ea), some (.ref q'), some (.int (Vbceah.least bs e1 e2 : Nat)), some (.ref L), v'] ∧
        StandAt H4 q' x' ∧ Fit bs e1 x' ∧ x'.1.sum = o'.length ∧ Vbceah.leastFrom bs e1 e2 x'.1 x'.2 = Vbceah.least bs e1 e2 ∧ OrderAt H4 L o' ∧
        o' ++ Vbceah.bestFrom bs e1 e2 (Vbceah.least bs e1 e2) (Vbceah.sheetsIn bs - o'.length) x'.1 x'.2 = Vbceah.best bs e1 e2 ∧ Same H H4, fun σ' H4 ⟨o', q', x', v', z1, z2⟩ => ⟨Vbceah.sheetsIn bs - o'.length, by omega, o', q', x', v', rfl, z2⟩, ?_⟩
      -- the books one by one
      refine ⟨fun j σ' H4 => ∃ i : Nat, j = B0 - i ∧ i ≤ B0 ∧ σ' = [some (.ref ba), some (.ref ea), some (.ref q), some (.int (Vbceah.least bs e1 e2 : Nat)), some (.ref L), some (.int i)] ∧ Same H3 H4, ⟨_, 0, rfl, Nat.zero_le _, rfl, Same.refl _⟩, ?_⟩
      rintro j σ' H4 ⟨i, rfl, hi, rfl, g4⟩
      have s7 := s6.trans g4
      have hS4 := StandAt.stays _ _ _ _ (g3.trans g4) hSx
      refine ⟨_, rfl, _, rfl, _, rfl, _, rfl, _, rfl, _, i, ba, ea, q, bs, e1, e2, x, rfl, BooksAt.stays _ _ _ _ s7 hB, EmptAt.stays _ _ _ _ s7 hE, hS4, u1, u2, F, h4, h12, by omega, fun H5 g5 => ⟨_, rfl, ?_⟩⟩
      have s8 := s7.trans g5
      cases hc : leads bs e1 e2 (Vbceah.least bs e1 e2) x i with
      | false =>
        have ne : i ≠ B0 := fun z => by rw [z, hlead] at hc; cases hc
        refine iteT ⟨fun σ'' H6 => ∃ i' : Nat, i' = i + 1 ∧ σ'' = [some (.ref ba), some (.ref ea), some (.ref q), some (.int (Vbceah.least bs e1 e2 : Nat)), some (.ref L), some (.int i')] ∧ Same H3 H6, fun σ'' H6 ⟨i', z1, z2, z3⟩ => ⟨B0 - i', by omega, i', rfl, by omega, z2, z3⟩, ?_⟩
        refine ⟨_, rfl, _, _, rfl, rfl, i + 1, rfl, ?_, g4.trans g5⟩
        show _ = [_, _, _, _, _, some (V.int (((i + 1 : Nat)) : Int))]
        have e : ((i + 1 : Nat) : Int) = (i : Int) + 1 := by omega
        rw [e]
        rfl
      | true =>
        have ei : i = B0 := by
          by_cases c2 : i < B0
          · rw [hfirst i c2] at hc
            cases hc
          · omega
        subst ei
        refine iteF ?_
        have hO5 : OrderAt H5 L o := (g3.trans (g4.trans g5)) _ _ hO
        refine ⟨_, rfl, .inl ⟨rfl, _, .inl (.inl hO5)⟩, _, rfl, L, _, _, rfl, rfl, hO5, ?_, ?_⟩
        · rw [nats_len, sizeLine_eq]
          omega
        have hS5 := StandAt.stays _ _ _ _ g5 hS4
        have off : ∀ b ob, H b = some ob → b ≠ L := fun b ob e z => by rw [z, hL0] at e; cases e
        have s9 : Same H (upd H5 L (.lst (nats o ++ [.int i]))) := fun b ob e => by rw [upd_ne (off b ob e)]; exact s8 _ _ e
        have hS6 : StandAt (upd H5 L (.lst (nats o ++ [.int i]))) q x := by
          obtain ⟨a1, a2, b1, b2, b3⟩ := hS5
          exact ⟨a1, a2, by rw [upd_ne (ne_of b1 hO5 (fun z => nomatch z))]; exact b1, by unfold NumsAt; rw [upd_ne (ne_of b2 hO5 (fun z => nomatch z))]; exact b2, by unfold ClockAt; rw [upd_ne (ne_of b3 hO5 (fun z => nomatch z))]; exact b3⟩
        have hO6 : OrderAt (upd H5 L (.lst (nats o ++ [.int i]))) L (o ++ [i]) := by
          show _ = some (HO.lst (nats (o ++ [i])))
          rw [upd_same]
          unfold nats
          rw [List.map_append]
          rfl
        generalize upd H5 L (.lst (nats o ++ [.int i])) = H6 at s9 hS6 hO6
        refine ⟨_, rfl, _, rfl, _, rfl, _, rfl, ba, ea, q, i, bs, e1, e2, x, rfl, BooksAt.stays _ _ _ _ s9 hB, EmptAt.stays _ _ _ _ s9 hE, hS6, u1, u2, hb, F.len, by omega, F.le i hb, fun z => ?_, fun y' hy' H7 p7 g7 hS7 => ?_⟩
        · rw [hy] at z
          cases z
        have ey : y' = y := Option.some.inj (hy'.symm.trans hy)
        subst ey
        have Fy := F.next u1 hb hy
        have hsy := left_next F hb hy
        refine ⟨o ++ [i], p7, y', _, by simp, rfl, hS7, Fy, by rw [hsy, hsum]; simp, hgy, g7 _ _ hO6, ?_, s9.trans g7⟩
        rw [← hbest]
        obtain ⟨n, hn⟩ : ∃ n, Vbceah.sheetsIn bs - o.length = n + 1 := ⟨Vbceah.sheetsIn bs - o.length - 1, by omega⟩
        have hn' : Vbceah.sheetsIn bs - (o ++ [i]).length = n := by rw [List.length_append]; show _ - (_ + 1) = n; omega
        rw [hn, hn', hbf n, List.append_assoc]
        rfl
    · have c' : ¬ o.length < Vbceah.sheetsIn bs := by simpa using c
      have e0 : Vbceah.sheetsIn bs - o.length = 0 := by omega
      rw [e0, bestFrom_zero, List.append_nil] at hbest
      subst hbest
      exact ⟨_, rfl, k H3 L s6 (g3 _ _ hO)⟩
end
end Rm

set_option Elab.async false
set_option linter.all false
set_option maxRecDepth 100000
set_option maxHeartbeats 4000000
/-! How many whole orders. -/
namespace Rm
open PySem PySem.Spec PyProof.Rows L2
theorem sheetsIn_append (a b : List Vbceah.Book) : Vbceah.sheetsIn (a ++ b) = Vbceah.sheetsIn a + Vbceah.sheetsIn b := by
  unfold Vbceah.sheetsIn
  rw [List.map_append, List.sum_append]
theorem ways_snoc : ∀ (l : List Vbceah.Book) (b : Vbceah.Book) (x : Nat × Nat), ways (l ++ [b]) x = ((ways l x).1 * choose ((ways l x).2 + b.length) b.length, (ways l x).2 + b.length)
  | [], _, _ => rfl
  | a :: l, b, x => ways_snoc l b _
theorem ways_two : ∀ (l : List Vbceah.Book) (x : Nat × Nat), (ways l x).2 = x.2 + Vbceah.sheetsIn l
  | [], _ => rfl
  | a :: l, x => by
    have i := ways_two l (x.1 * choose (x.2 + a.length) a.length, x.2 + a.length)
    show (ways l _).2 = _
    rw [i]
    show x.2 + a.length + Vbceah.sheetsIn l = x.2 + (a.length + Vbceah.sheetsIn l)
    omega
theorem fact_mono : ∀ {m n : Nat}, m ≤ n → Vbceah.factorial m ≤ Vbceah.factorial n
  | m, 0, h => by rw [Nat.le_zero.mp h]; exact Nat.le_refl _
  | m, n + 1, h => by
    by_cases c : m = n + 1
    · rw [c]; exact Nat.le_refl _
    · have i := fact_mono (m := m) (n := n) (by omega)
      have e : Vbceah.factorial (n + 1) = (n + 1) * Vbceah.factorial n := rfl
      rw [e]
      exact Nat.le_trans i (Nat.le_mul_of_pos_left _ (by omega))
/-- a bound of the ways: they are ways of fewer than 13 sheets -/
theorem ways_le (l : List Vbceah.Book) (k : Nat) (h : Vbceah.sheetsIn l + k ≤ 12) : (ways l (1, 0)).1 * choose ((ways l (1, 0)).2 + k) k ≤ 479001600 := by
  have e2 := ways_two l (1, 0)
  rw [Nat.zero_add] at e2
  obtain ⟨_, h1⟩ := ways_is l 1 0 1 rfl
  rw [Nat.zero_add] at h1
  have pp := prodFact_pos l 1 (by decide)
  have f12 : Vbceah.factorial 12 = 479001600 := by decide
  rw [e2, ← f12]
  refine Nat.le_trans ?_ (fact_mono h)
  have cf := choose_fact k (Vbceah.sheetsIn l)
  rw [← cf, ← h1]
  have fk := factorial_pos k
  have a1 : choose (Vbceah.sheetsIn l + k) k * (ways l (1, 0)).1 ≤ choose (Vbceah.sheetsIn l + k) k * Vbceah.factorial k * ((ways l (1, 0)).1 * prodFact l 1) :=
    Nat.mul_le_mul (Nat.le_mul_of_pos_right _ fk) (Nat.le_mul_of_pos_right _ pp)
  rw [Nat.mul_comm]
  exact a1
section
variable {P : Program} {w : World} {K : PySem.W.Frag} {mg : Str → Option Value} {base : Heap}
def spOrders : Sp := fun vs H Q _ => ∃ (ba : Addr) (bs : List Vbceah.Book), vs = [.ref ba] ∧ BooksAt H ba bs ∧ Vbceah.sheetsIn bs ≤ 12 ∧ ∀ H', Same H H' → Q (.int (Vbceah.ordersOf bs : Nat)) H'
abbrev sOrders : Stmt := topS 11
abbrev nOrders : List Str := ["books", "ways", "sheets_before", "sheets", "number"]
theorem scOrders : FnScope nOrders ["books"] (C8.fnScope sOrders) := C8.fnScope_by (by decide +kernel)
theorem cal_orders (h : Has K mg "count_whole_orders" ["books"] sOrders) (T : Own mg) : C8.Cal P w K mg base 1 "count_whole_orders" spOrders [] := by
  obtain ⟨f, fd, D, b⟩ := h
  refine C8.cal0 D b .nil scOrders (fun vs H Q E h => ?_) fun cdv A outer s H vs Q E hr h => ⟨_,
    pss_cons (ps_set (i := 1) scOrders.nd rfl (.inl rfl) pe_int)
    (pss_cons (ps_set (i := 2) scOrders.nd rfl (.inl rfl) pe_int)
    (pss_cons (ps_for PassesOwn.never rfl (pi_list (pv 0)) (pg_name (i := 3) scOrders.nd rfl (.inl rfl))
      (pss_one (ps_for PassesOwn.never rfl (pi_range2 (by rfl) T.range (pa_cons pe_int (pa_cons (pe_op op_add (pe_callB call_len_seq (by rfl) T.len PySem.boot_len (pa_cons (pv 3) pa_nil)) pe_int) pa_nil))) (pg_name (i := 4) scOrders.nd rfl (.inl rfl))
        (pss_cons (ps_aug (i := 2) scOrders.nd rfl (.inl rfl) pe_int ip_add)
        (pss_one (ps_set (i := 1) scOrders.nd rfl (.inl rfl) (pe_op op_fdiv (pe_op op_mul (pv 1) (pv 2)) (pv 4))))))))
    (pss_one (ps_ret (pv 1))))), ?_⟩
  · obtain ⟨ba, bs, rfl, _⟩ := h
    rfl
  obtain ⟨ba, bs, rfl, ⟨as, hl, hp⟩, h12, k⟩ := h
  refine ⟨_, rfl, ba, rfl, ⟨_, .inl (.inl hl)⟩, for_list (K := K) (a := ba) (xs := as.map V.ref) (fun i σ H' => ∃ (W N : Int) (v1 v2 : Option V), σ = [some (.ref ba), some (.int W), some (.int N), v1, v2] ∧ W = ((ways (bs.take i) (1, 0)).1 : Nat) ∧ N = ((ways (bs.take i) (1, 0)).2 : Nat) ∧ Same H H')
    ⟨1, 0, none, none, rfl, rfl, rfl, Same.refl H⟩ (fun i σ H' _ ⟨_, _, _, _, _, _, _, s5⟩ => s5.seq (.inl (.inl hl))) ?_ ?_⟩
  · rintro i x σ H' hi ⟨W, N, v1, v2, rfl, rfl, rfl, s5⟩
    obtain ⟨p, hpi, rfl⟩ := map_get hi
    obtain ⟨bk, hbi, ⟨ss, hb1, hb2⟩⟩ := LstOf.at hp hpi
    have el : (ss.map V.ref).length = bk.length := by rw [List.length_map]; exact Paired.length hb2
    have hs12 : Vbceah.sheetsIn (bs.take i) + bk.length ≤ 12 := by
      have e : bs.take (i + 1) = bs.take i ++ [bk] := take_get hbi
      have a1 : Vbceah.sheetsIn (bs.take (i + 1)) = Vbceah.sheetsIn (bs.take i) + bk.length := by
        rw [e, sheetsIn_append]
        show _ + (bk.length + 0) = _
        omega
      have a2 : Vbceah.sheetsIn bs = Vbceah.sheetsIn (bs.take (i + 1)) + Vbceah.sheetsIn (bs.drop (i + 1)) := by rw [← sheetsIn_append, List.take_append_drop]
      omega
    have e2 := ways_two (bs.take i) (1, 0)
    rw [Nat.zero_add] at e2
    refine ⟨_, rfl, p, _, rfl, .inl (.inl (.inl (s5 _ _ hb1))), _, _, rfl, rfl, _, _, rfl, ⟨by decide, by decide, by rw [el]; omega, by rw [el]; omega⟩, ?_⟩
    rw [el]
    have en : ((bk.length : Int) + 1 - 1).toNat = bk.length := by omega
    rw [en]
    refine for_range (lo := 1) (n := bk.length) (fun j σ H2 => ∃ (W N : Int) (v2 : Option V), σ = [some (.ref ba), some (.int W), some (.int N), some (.ref p), v2] ∧ W = ((ways (bs.take i) (1, 0)).1 * choose ((ways (bs.take i) (1, 0)).2 + j) j : Nat) ∧ N = ((ways (bs.take i) (1, 0)).2 + j : Nat) ∧ Same H H2)
      ⟨_, _, v2, rfl, by rw [choose_zero, Nat.mul_one], rfl, s5⟩ ?_ ?_
    · rintro j σ H2 hj ⟨W, N, v2, rfl, rfl, rfl, s6⟩
      have bd := ways_le (bs.take i) j (by omega)
      have st := ways_step (ways (bs.take i) (1, 0)).1 (ways (bs.take i) (1, 0)).2 j
      refine ⟨_, rfl, _, _, rfl, rfl, _, rfl, _, rfl, _, _, rfl, rfl, .inl ⟨by omega, by omega⟩, _, rfl, _, _, rfl, rfl, ⟨by omega, by omega⟩, ?_⟩
      refine ⟨_, _, _, rfl, ?_, ?_, s6⟩
      · rw [← Nat.add_assoc, ← st]
        show _ * _ / ((1 : Int) + (j : Nat)) = _
        have q1 : ((1 : Int) + (j : Nat)) = ((j + 1 : Nat) : Int) := by omega
        rw [q1]
        have q2 : (((ways (bs.take i) (1, 0)).2 + j : Nat) : Int) + 1 = (((ways (bs.take i) (1, 0)).2 + j + 1 : Nat) : Int) := by omega
        show ((((ways (bs.take i) (1, 0)).1 * choose ((ways (bs.take i) (1, 0)).2 + j) j : Nat) : Int) * ((((ways (bs.take i) (1, 0)).2 + j : Nat) : Int) + 1)) / _ = _
        rw [q2, ← Int.natCast_mul, ← Int.natCast_ediv]
      · show (((ways (bs.take i) (1, 0)).2 + j : Nat) : Int) + 1 = _
        omega
    · rintro σ H2 ⟨W, N, v2, rfl, rfl, rfl, s6⟩
      refine ⟨_, _, _, _, rfl, ?_, ?_, s6⟩
      · rw [take_get hbi, ways_snoc]
      · rw [take_get hbi, ways_snoc]
  · rintro σ H' ⟨W, N, v1, v2, rfl, rfl, rfl, s5⟩
    have el : as.length = bs.length := Paired.length hp
    refine ⟨_, rfl, ?_⟩
    rw [List.length_map, el, List.take_length, ways_orders]
    exact k H' s5
end
end Rm

set_option Elab.async false
set_option linter.all false
set_option maxRecDepth 100000
set_option maxHeartbeats 4000000
/-! The room in the heap; its small helpers. -/
namespace Rm
open PySem PySem.Spec PyProof.Rows L2
def iv (l : List Int) : List V := l.map V.int
theorem iv_len (l : List Int) : (iv l).length = l.length := List.length_map _
theorem iv_get {l : List Int} {i : Nat} {n : Int} (h : l[i]? = some n) : (iv l)[i]? = some (.int n) := by
  unfold iv
  rw [List.getElem?_map, h]
  rfl
theorem nats_iv (l : List Nat) : nats l = iv (l.map fun (n : Nat) => (n : Int)) := by
  unfold nats iv
  rw [List.map_map]
  rfl
section
variable {P : Program} {w : World} {K : PySem.W.Frag} {mg : Str → Option Value} {base : Heap}
/-! ### all_within -/
def spWithin : Sp := fun vs H Q _ => ∃ (na : Addr) (ns : List Int) (lo hi : Int), vs = [.ref na, .int lo, .int hi] ∧ H na = some (.lst (iv ns)) ∧ ns.length ≤ 1000 ∧ ∀ H', Same H H' → Q (.bl (ns.all fun n => VbceCore.isBetween n lo hi)) H'
abbrev sWithin : Stmt := topS 30
abbrev nWithin : List Str := ["numbers", "least", "most", "number"]
theorem scWithin : FnScope nWithin ["numbers", "least", "most"] (C8.fnScope sWithin) := C8.fnScope_by (by decide +kernel)
theorem cal_within (h : Has K mg "all_within" ["numbers", "least", "most"] sWithin) (T : Own mg) : C8.Cal P w K mg base 1 "all_within" spWithin [] := by
  obtain ⟨f, fd, D, b⟩ := h
  refine C8.cal0 D b .nil scWithin (fun vs H Q E h => ?_) fun cdv A outer s H vs Q E hr h => ⟨_,
    pss_one (ps_ret (pe_callB (cr_all rfl) (by rfl) T.all (by decide +kernel) (pa_cons (pe_lc (own := [("number", 3)]) (g := gName 3) (by rfl) scWithin.nd (pi_list (pv 0)) (blkOk_by (own := [("number", 3)]) (N := nWithin) (sc := C8.fnScope sWithin) (by decide +kernel))
      (fun _ _ _ _ _ => pg_name (i := 3) scWithin.nd rfl (Or.inl rfl)) (fun _ _ _ _ _ => pts_nil) (fun _ _ _ _ _ => pe_chain op_le op_le (pv 1) (pv 3) (pv 2))) pa_nil))), ?_⟩
  · obtain ⟨na, ns, lo, hi, rfl, _⟩ := h
    rfl
  obtain ⟨na, ns, lo, hi, rfl, hN, hz, k⟩ := h
  refine ⟨_, rfl, na, rfl, ⟨_, .inl (.inl hN)⟩, fun D hD => lc_list (K := K) (a := na) (xs := iv ns) (fun i H' => Same H H' ∧ H' D = some (.lst (((ns.map fun n => VbceCore.isBetween n lo hi).take i).map V.bl)))
    ⟨same_new hD, upd_same⟩ (fun i H' _ ⟨s5, _⟩ => s5.seq (.inl (.inl hN))) ?_ ?_⟩
  · rintro i x H' hx ⟨s5, hD'⟩
    obtain ⟨n, hn, rfl⟩ := map_get hx
    have fin : ∀ v : Bool, VbceCore.isBetween n lo hi = v → ∃ acc, H' D = some (.lst acc) ∧ acc.length < sizeLine ∧ Same H (upd H' D (.lst (acc ++ [V.bl v]))) ∧ (upd H' D (.lst (acc ++ [V.bl v]))) D = some (.lst (((ns.map fun n => VbceCore.isBetween n lo hi).take (i + 1)).map V.bl)) := fun v ev => by
      refine ⟨_, hD', ?_, same_upd s5 hD, ?_⟩
      · rw [List.length_map, List.length_take, List.length_map, sizeLine_eq]
        omega
      · have e : (ns.map fun n => VbceCore.isBetween n lo hi)[i]? = some v := by rw [List.getElem?_map, hn, ← ev]; rfl
        rw [upd_same, take_get e, List.map_append]
        rfl
    refine ⟨rfl, _, rfl, _, rfl, _, _, rfl, rfl, _, rfl, ifB (fun c1 => ?_) fun c1 => ?_⟩
    · have c1' : lo ≤ n := by simpa using c1
      refine ⟨_, rfl, _, _, rfl, rfl, ?_⟩
      refine fin _ ?_
      unfold VbceCore.isBetween
      rw [decide_eq_true c1', Bool.true_and]
    · have c1' : ¬ lo ≤ n := by simpa using c1
      refine fin _ ?_
      unfold VbceCore.isBetween
      rw [decide_eq_false c1', Bool.false_and]
  · rintro H' ⟨s5, hD'⟩
    have e : (((ns.map fun n => VbceCore.isBetween n lo hi).take (iv ns).length).map V.bl) = (ns.map fun n => VbceCore.isBetween n lo hi).map V.bl := by
      rw [List.take_of_length_le (by rw [iv_len, List.length_map]; exact Nat.le_refl _)]
    rw [e] at hD'
    refine ⟨D, ns.map fun n => VbceCore.isBetween n lo hi, rfl, .inl (.inl hD'), ?_⟩
    have e2 : (ns.map fun n => VbceCore.isBetween n lo hi).all id = ns.all fun n => VbceCore.isBetween n lo hi := by rw [List.all_map]; rfl
    rw [e2]
    exact k H' s5
/-! ### by_twos -/
def spTwos : Sp := fun vs H Q _ => ∃ (na : Addr) (r : List (Nat × Nat)), vs = [.ref na] ∧ H na = some (.lst (iv (flat2 r))) ∧ r.length ≤ 1000 ∧ ∀ H' p, Same H H' → H p = none → LstOf PairAt H' p r → Q (.ref p) H'
abbrev sTwos : Stmt := topS 31
abbrev nTwos : List Str := ["numbers", "place"]
theorem scTwos : FnScope nTwos ["numbers"] (C8.fnScope sTwos) := C8.fnScope_by (by decide +kernel)
theorem flat2_len : ∀ r : List (Nat × Nat), (flat2 r).length = 2 * r.length
  | [] => rfl
  | x :: r => by
    have i := flat2_len r
    show (flat2 r).length + 2 = 2 * (r.length + 1)
    omega
theorem flat2_get : ∀ {r : List (Nat × Nat)} {i : Nat} {x : Nat × Nat}, r[i]? = some x → (flat2 r)[2 * i]? = some (x.1 : Int) ∧ (flat2 r)[2 * i + 1]? = some (x.2 : Int)
  | [], i, x, h => by simp at h
  | y :: r, 0, x, h => by
    have e : y = x := Option.some.inj h
    subst e
    exact ⟨rfl, rfl⟩
  | y :: r, i + 1, x, h => by
    have j := flat2_get (r := r) (i := i) (x := x) h
    have e : flat2 (y :: r) = (y.1 : Int) :: (y.2 : Int) :: flat2 r := rfl
    have e1 : 2 * (i + 1) = 2 * i + 1 + 1 := by omega
    rw [e, e1]
    exact j
theorem rsize (n : Nat) : Builtin.Range.rangeSize 0 ((2 * n : Nat) : Int) 2 = n := by
  unfold Builtin.Range.rangeSize
  rw [if_pos (by decide)]
  by_cases c : n = 0
  · subst c
    rfl
  · rw [if_pos (by omega)]
    omega
theorem fitsL {x : Int} (h : -1000000 ≤ x ∧ x ≤ 1000000) : Builtin.Range.rangeFitsLong x = true := by
  unfold Builtin.Range.rangeFitsLong
  simp only [Bool.and_eq_true, decide_eq_true_eq]
  omega
theorem rsmall {n : Nat} (h : n ≤ 1000) : Builtin.Range.small 0 ((2 * n : Nat) : Int) 2 = true := by
  unfold Builtin.Range.small
  rw [rsize, fitsL (by omega), fitsL (by omega), fitsL (by omega), fitsL (by omega), if_pos (by decide), fitsL (by omega), Bool.or_true]
  rfl
theorem cal_twos (h : Has K mg "by_twos" ["numbers"] sTwos) (T : Own mg) : C8.Cal P w K mg base 1 "by_twos" spTwos [] := by
  obtain ⟨f, fd, D, b⟩ := h
  refine C8.cal0 D b .nil scTwos (fun vs H Q E h => ?_) fun cdv A outer s H vs Q E hr h => ⟨_,
    pss_one (ps_ret (pe_lc (own := [("place", 1)]) (g := gName 1) (by rfl) scTwos.nd (pi_range3 (by rfl) T.range (pa_cons pe_int (pa_cons (pe_callB call_len_seq (by rfl) T.len PySem.boot_len (pa_cons (pv 0) pa_nil)) (pa_cons pe_int pa_nil)))) (blkOk_by (own := [("place", 1)]) (N := nTwos) (sc := C8.fnScope sTwos) (by decide +kernel))
      (fun _ _ _ _ _ => pg_name (i := 1) scTwos.nd rfl (Or.inl rfl)) (fun _ _ _ _ _ => pts_nil) (fun _ _ _ _ _ => pe_tup (pa_cons (pe_ix (ix_listK K) (pv 0) (pv 1) (fun _ _ => rfl)) (pa_cons (pe_ix (ix_listK K) (pv 0) (pe_op op_add (pv 1) pe_int) (fun _ _ => rfl)) pa_nil))))), ?_⟩
  · obtain ⟨na, r, rfl, _⟩ := h
    rfl
  obtain ⟨na, r, rfl, hN, hz, k⟩ := h
  refine ⟨_, rfl, na, _, rfl, .inl (.inl (.inl hN)), 0, _, 2, r.length, rfl, ?_, fun D hD => Rx.lc_rangeC (lo := 0) (c := 2) (n := r.length) (fun i H' => Same H H' ∧ ∃ ts : List Addr, H' D = some (.lst (ts.map V.ref)) ∧ Paired (fun p x => PairAt H' p x) ts (r.take i)) ⟨same_new hD, [], upd_same, .nil⟩ ?_ ?_⟩
  · rw [iv_len, flat2_len]
    refine ⟨by decide, by decide, ?_, ?_⟩
    · exact rsmall hz
    · exact rsize r.length
  · rintro i H' hi ⟨s5, ts, hD', hP⟩
    obtain ⟨x, hx⟩ : ∃ x, r[i]? = some x := ⟨_, List.getElem?_eq_getElem hi⟩
    obtain ⟨g1, g2⟩ := flat2_get hx
    have e1 : (0 : Int) + (i : Nat) * 2 = ((2 * i : Nat) : Int) := by omega
    have e2 : ((2 * i : Nat) : Int) + 1 = ((2 * i + 1 : Nat) : Int) := by omega
    have hN' := s5 _ _ hN
    rw [e1]
    refine ⟨rfl, _, rfl, _, rfl, na, _, _, _, rfl, rfl, .inl (.inl hN'), atI_nat (iv_get g1), ?_⟩
    have g2' : atI (iv (flat2 r)) (((2 * i : Nat) : Int) + 1) = some (V.int (x.2 : Int)) := by
      rw [e2]
      exact atI_nat (iv_get g2)
    refine ⟨_, rfl, _, rfl, _, _, rfl, rfl, na, _, _, _, rfl, rfl, .inl (.inl hN'), g2', ?_⟩
    refine ⟨(by show 2 ≤ sizeLine; decide), fun t ht => ⟨_, same_new ht _ _ hD', ?_, ?_, ts ++ [t], ?_, ?_⟩⟩
    · have := Paired.length hP
      rw [List.length_take] at this
      rw [List.length_map, sizeLine_eq]
      omega
    · exact same_upd (same_upd s5 (s5.free ht)) hD
    · rw [upd_same, List.map_append]
      rfl
    · have hDt : upd H' t (.tup [.int x.1, .int x.2]) D = some (.lst (ts.map V.ref)) := same_new ht _ _ hD'
      have kp : ∀ (p : Addr) (y : Nat × Nat), PairAt (upd H' t (.tup [.int x.1, .int x.2])) p y → PairAt (upd (upd H' t (.tup [.int x.1, .int x.2])) D (.lst (ts.map V.ref ++ [.ref t]))) p y := fun p y hy => by
        show _ = some (HO.tup _)
        rw [upd_ne (ne_of hy hDt (fun z => nomatch z))]
        exact hy
      rw [take_get hx]
      exact Paired.snoc (Paired.mapP hP fun p y hy => kp p y (PairAt.stays _ _ _ _ (same_new ht) hy)) (kp _ _ upd_same)
  · rintro H' ⟨s5, ts, hD', hP⟩
    rw [List.take_length] at hP
    exact k H' D s5 hD ⟨ts, hD', hP⟩
end
end Rm

set_option Elab.async false
set_option linter.all false
set_option maxRecDepth 100000
set_option maxHeartbeats 4000000
/-! The room in the heap. -/
namespace Rm
open PySem PySem.Spec PyProof.Rows L2
def roomF (ba ea oa : Addr) : List (Str × V) := [("books", .ref ba), ("empties", .ref ea), ("order", .ref oa)]
theorem lk_hit {k : Str} {v : V} {r : List (Str × V)} : List.lookup k ((k, v) :: r) = some v := by
  simp only [List.lookup, beq_self_eq_true k]
theorem lk_miss {k g : Str} {v : V} {r : List (Str × V)} (h : (k == g) = false) : List.lookup k ((g, v) :: r) = List.lookup k r := by
  simp only [List.lookup, h]
theorem lkB (ba ea oa : Addr) : (roomF ba ea oa).lookup ("books" : Str) = some (.ref ba) := lk_hit
theorem lkE (ba ea oa : Addr) : (roomF ba ea oa).lookup ("empties" : Str) = some (.ref ea) := (lk_miss (by decide +kernel)).trans lk_hit
theorem lkO (ba ea oa : Addr) : (roomF ba ea oa).lookup ("order" : Str) = some (.ref oa) := (lk_miss (by decide +kernel)).trans ((lk_miss (by decide +kernel)).trans lk_hit)
theorem pF_hit {f : Str} {v x : V} {r : List (Str × V)} : putF f v ((f, x) :: r) = (f, v) :: r := if_pos rfl
theorem pF_miss {f g : Str} {v x : V} {r : List (Str × V)} (h : ¬ g = f) : putF f v ((g, x) :: r) = (g, x) :: putF f v r := if_neg h
theorem pfO (ba ea oa oa' : Addr) : putF "order" (.ref oa') (roomF ba ea oa) = roomF ba ea oa' := (pF_miss (by decide +kernel)).trans (congrArg _ ((pF_miss (by decide +kernel)).trans (congrArg _ pF_hit)))
structure RoomTxt (K : PySem.W.Frag) (C : Addr) : Prop where
  cl : Cls K C
  nB : NoAttr K C "books"
  nE : NoAttr K C "empties"
  nO : NoAttr K C "order"
/-- the room at r holds the state s -/
def RoomAt (C G : Addr) (H : Hp) (r ba ea : Addr) (s : Vbceah.State) : Prop := ∃ (dx oa p q : Addr) (as : List Addr), H r = some (.ins C dx (roomF ba ea oa)) ∧ H ba = some (.lst (as.map V.ref)) ∧ Paired (fun p x => BookAt H p x) as s.books ∧
  H ea = some (.lst [.ref p, .ref q]) ∧ BreaksAt H p s.empty1 ∧ BreaksAt H q s.empty2 ∧ OrderAt H oa s.order ∧
  ba ≠ ea ∧ oa ≠ ba ∧ oa ≠ ea ∧ p ≠ ba ∧ p ≠ ea ∧ q ≠ ba ∧ q ≠ ea ∧ (∀ a ∈ as, a ≠ ba ∧ a ≠ ea) ∧ G ≠ ba ∧ G ≠ ea ∧ oa ≠ G ∧ p ≠ G ∧ q ≠ G ∧ ∀ a ∈ as, a ≠ G
theorem RoomAt.stays {C G : Addr} {H H' : Hp} {r ba ea : Addr} {s : Vbceah.State} (e : Same H H') (h : RoomAt C G H r ba ea s) : RoomAt C G H' r ba ea s := by
  obtain ⟨dx, oa, p, q, as, h1, h2, h3, h4, h5, h6, h7, h8⟩ := h
  exact ⟨dx, oa, p, q, as, e _ _ h1, e _ _ h2, Paired.mapP h3 fun _ _ x => BookAt.stays _ _ _ _ e x, e _ _ h4, BreaksAt.stays _ _ _ _ e h5, BreaksAt.stays _ _ _ _ e h6, OrderAt.stays _ _ _ _ e h7, h8⟩
theorem RoomAt.flds {C G : Addr} {H : Hp} {r ba ea : Addr} {s : Vbceah.State} (h : RoomAt C G H r ba ea s) : ∃ dx oa, H r = some (.ins C dx (roomF ba ea oa)) ∧ BooksAt H ba s.books ∧ EmptAt H ea (s.empty1, s.empty2) ∧ OrderAt H oa s.order := by
  obtain ⟨dx, oa, p, q, as, h1, h2, h3, h4, h5, h6, h7, h8⟩ := h
  exact ⟨dx, oa, h1, ⟨as, h2, h3⟩, ⟨p, q, h4, h5, h6⟩, h7⟩
/-- what a call leaves as it was -/
def Frame (H H' : Hp) (r ba ea : Addr) : Prop := ∀ b o, H b = some o → b ≠ r → b ≠ ba → b ≠ ea → H' b = some o
theorem Frame.of {H H' : Hp} {r ba ea : Addr} (h : Same H H') : Frame H H' r ba ea := fun b o e _ _ _ => h b o e
/-- what a call does: g of the state and the numbers handed in -/
def spAct (C : Addr) (g : Vbceah.State → List Int → Vbceah.State × List Int) (pre : List Int → Prop) : Sp := fun vs H Q _ => ∃ (G r na ba ea : Addr) (s : Vbceah.State) (ns : List Int), vs = [.ref r, .ref na] ∧ RoomAt C G H r ba ea s ∧
  H na = some (.lst (iv ns)) ∧ na ≠ ba ∧ na ≠ ea ∧ na ≠ G ∧ (∃ o, H G = some o) ∧ Good s ∧ pre ns ∧
  ∀ (H' : Hp) (p ba' ea' : Addr), Frame H H' r ba ea → RoomAt C G H' r ba' ea' (g s ns).1 → (ba' = ba ∨ H ba' = none) → (ea' = ea ∨ H ea' = none) → H p = none → H' p = some (.lst (iv (g s ns).2)) → Q (.ref p) H'
section
variable {P : Program} {w : World} {K : PySem.W.Frag} {mg : Str → Option Value} {base : Heap} {C : Addr}
/-! ### as_list, standings_of, whole_flag -/
def spAsList : Sp := fun vs H Q _ => ∃ (na : Addr) (xs : List V), vs = [.ref na] ∧ H na = some (.lst xs) ∧ xs.length ≤ 1000 ∧ ∀ H' p, Same H H' → H p = none → H' p = some (.lst (.int xs.length :: xs)) → Q (.ref p) H'
abbrev sAsList : Stmt := topS 32
theorem scAsList : FnScope ["numbers"] ["numbers"] (C8.fnScope sAsList) := C8.fnScope_by (by decide +kernel)
theorem cal_asList (h : Has K mg "as_list" ["numbers"] sAsList) (T : Own mg) : C8.Cal P w K mg base 1 "as_list" spAsList [] := by
  obtain ⟨f, fd, D, b⟩ := h
  refine C8.cal0 D b .nil scAsList (fun vs H Q E h => ?_) fun cdv A outer s H vs Q E hr h => ⟨_,
    pss_one (ps_ret (pe_op op_cat (pe_lst (pa_cons (pe_callB call_len_seq (by rfl) T.len PySem.boot_len (pa_cons (pv 0) pa_nil)) pa_nil)) (pv 0))), ?_⟩
  · obtain ⟨na, xs, rfl, _⟩ := h
    rfl
  obtain ⟨na, xs, rfl, hN, hz, k⟩ := h
  refine ⟨_, rfl, na, _, rfl, .inl (.inl (.inl hN)), (by show 1 ≤ sizeLine; decide), fun t ht => ?_⟩
  refine ⟨_, rfl, t, na, _, _, rfl, rfl, upd_same, same_new ht _ _ hN, ?_, fun p hp => ?_⟩
  · show 1 + xs.length ≤ sizeLine
    rw [sizeLine_eq]
    omega
  · exact k _ p (same_upd (same_new ht) ((same_new ht).free hp)) ((same_new ht).free hp) upd_same
def spStandings (C : Addr) : Sp := fun vs H Q _ => ∃ (G r ba ea : Addr) (s : Vbceah.State), vs = [.ref r] ∧ RoomAt C G H r ba ea s ∧ Good s ∧
  ∀ H' p, Same H H' → LstOf StandAt H' p (first0 s.books :: trail s.books s.empty1 s.empty2 (first0 s.books) s.order) → Q (.ref p) H'
abbrev sStandings : Stmt := topS 33
theorem scStandings : FnScope ["room"] ["room"] (C8.fnScope sStandings) := C8.fnScope_by (by decide +kernel)
theorem cal_standings (h : Has K mg "standings_of" ["room"] sStandings) (T : RoomTxt K C) (Al : C8.Cal P w K mg base 4 "standings_along" spAlong []) : C8.Cal P w K mg base 5 "standings_of" (spStandings C) [] := by
  obtain ⟨f, fd, D, b⟩ := h
  refine C8.cal0 D b .nil scStandings (fun vs H Q E h => ?_) fun cdv A outer s H vs Q E hr h => ⟨_,
    pss_one (ps_ret (C8.pe_c Al hr (by decide) (by rfl) (pa_cons (pe_fld (pv 0) rfl) (pa_cons (pe_fld (pv 0) rfl) (pa_cons (pe_fld (pv 0) rfl) pa_nil))))), ?_⟩
  · obtain ⟨G, r, ba, ea, s, rfl, _⟩ := h
    rfl
  obtain ⟨G, r, ba, ea, s, rfl, hR, g, k⟩ := h
  obtain ⟨dx, oa, hr1, hB, hE, hO⟩ := hR.flds
  refine ⟨_, rfl, r, C, dx, _, _, rfl, hr1, T.cl, T.nB, lkB .., _, rfl, r, C, dx, _, _, rfl, hr1, T.cl, T.nE, lkE .., _, rfl, r, C, dx, _, _, rfl, hr1, T.cl, T.nO, lkO .., ?_⟩
  have h4 := g.four
  have h12 := g.twelve
  have ho := runs_len g.runs
  exact ⟨ba, ea, oa, s.books, s.empty1, s.empty2, s.order, rfl, hB, hE, hO, g.u1, g.u2, by omega, by omega, g.runs, fun H' p e h => k H' p e h⟩
def spWhole (C : Addr) : Sp := fun vs H Q _ => ∃ (G r ba ea : Addr) (s : Vbceah.State), vs = [.ref r] ∧ RoomAt C G H r ba ea s ∧ Good s ∧ ∀ H', Same H H' → Q (.int (if Vbceah.isWhole s.books s.order = true then 1 else 0)) H'
abbrev sWhole : Stmt := topS 34
theorem scWhole : FnScope ["room"] ["room"] (C8.fnScope sWhole) := C8.fnScope_by (by decide +kernel)
theorem cal_whole (h : Has K mg "whole_flag" ["room"] sWhole) (T : RoomTxt K C) (O : Own mg) (Co : C8.Cal P w K mg base 1 "count_sheets" spCount []) : C8.Cal P w K mg base 2 "whole_flag" (spWhole C) [] := by
  obtain ⟨f, fd, D, b⟩ := h
  refine C8.cal0 D b .nil scWhole (fun vs H Q E h => ?_) fun cdv A outer s H vs Q E hr h => ⟨_,
    pss_one (ps_ret (pe_callTy call_int1 (by rfl) O.int (by decide +kernel) (pa_cons (pe_cmpR op_eq (pe_callB call_len_seq (by rfl) O.len PySem.boot_len (pa_cons (pe_fld (pv 0) rfl) pa_nil)) (C8.pe_c Co hr (by decide) (by rfl) (pa_cons (pe_fld (pv 0) rfl) pa_nil)) (nomark _)) pa_nil))), ?_⟩
  · obtain ⟨G, r, ba, ea, s, rfl, _⟩ := h
    rfl
  obtain ⟨G, r, ba, ea, s, rfl, hR, g, k⟩ := h
  obtain ⟨dx, oa, hr1, hB, hE, hO⟩ := hR.flds
  have h4 := g.four
  refine ⟨_, rfl, r, C, dx, _, _, rfl, hr1, T.cl, T.nO, lkO .., oa, _, rfl, .inl (.inl (.inl hO)), _, rfl, r, C, dx, _, _, rfl, hr1, T.cl, T.nB, lkB .., ba, s.books, rfl, hB, by omega, fun H1 g1 => ?_⟩
  refine ⟨rfl, .inr ⟨_, rfl, ?_⟩⟩
  have q := k H1 g1
  rw [whole_is g.runs] at q
  rw [nats_len]
  have e : (decide (V.int ((s.order.length : Nat) : Int) = V.int ((Vbceah.sheetsIn s.books : Nat) : Int))) = (s.order.length == Vbceah.sheetsIn s.books) := by
    by_cases c : s.order.length = Vbceah.sheetsIn s.books
    · rw [c, beq_self_eq_true, decide_eq_true rfl]
    · rw [beq_eq_false_iff_ne.mpr c, decide_eq_false (fun z => c (Int.ofNat_inj.mp (V.int.inj z)))]
  rw [e]
  exact q
end
end Rm

set_option Elab.async false
set_option linter.all false
set_option maxRecDepth 100000
set_option maxHeartbeats 4000000
/-! The calls that tell. -/
namespace Rm
open PySem PySem.Spec PyProof.Rows L2
theorem Paired.snocR {α β : Type} {F : α → β → Prop} : ∀ {l₁ : List α} {l₂ : List β} {b : β}, Paired F l₁ (l₂ ++ [b]) → ∃ as a, l₁ = as ++ [a] ∧ Paired F as l₂ ∧ F a b
  | _, [], _, h => by
    cases h with
    | cons r t =>
      cases t
      exact ⟨[], _, rfl, .nil, r⟩
  | _, c :: l₂, b, h => by
    cases h with
    | cons r t =>
      obtain ⟨as, a, e, h1, h2⟩ := Paired.snocR t
      exact ⟨_ :: as, a, by rw [e]; rfl, .cons r h1, h2⟩
theorem last_split : ∀ (x : Stand) (tr : List Stand), ∃ l, x :: tr = l ++ [lastOf x tr]
  | x, [] => ⟨[], rfl⟩
  | x, y :: tr => by
    obtain ⟨l, e⟩ := last_split y tr
    refine ⟨x :: l, ?_⟩
    have e2 : lastOf x (y :: tr) = lastOf y tr := List.getLastD_cons ..
    rw [e2, List.cons_append, ← e]
theorem last_at {H : Hp} {p : Addr} {x : Stand} {tr : List Stand} (h : LstOf StandAt H p (x :: tr)) : ∃ (as : List Addr) (z : Addr), H p = some (.lst (as.map V.ref ++ [.ref z])) ∧ StandAt H z (lastOf x tr) := by
  obtain ⟨as, h1, h2⟩ := h
  obtain ⟨l, e⟩ := last_split x tr
  rw [e] at h2
  obtain ⟨as', z, e2, _, h4⟩ := Paired.snocR h2
  refine ⟨as', z, ?_, h4⟩
  rw [e2, List.map_append] at h1
  exact h1
theorem stand_upd {H : Hp} {L p : Addr} {xs ys : List V} {y : Stand} (hL : H L = some (.lst xs)) (h : StandAt H p y) : StandAt (upd H L (.lst ys)) p y := by
  obtain ⟨a1, a2, b1, b2, b3⟩ := h
  refine ⟨a1, a2, ?_, ?_, ?_⟩
  · rw [upd_ne (ne_of b1 hL (fun z => nomatch z))]; exact b1
  · unfold NumsAt; rw [upd_ne (ne_of b2 hL (fun z => nomatch z))]; exact b2
  · unfold ClockAt; rw [upd_ne (ne_of b3 hL (fun z => nomatch z))]; exact b3
theorem bestFrom_len {bs : List Vbceah.Book} {e1 e2 : Vbceah.Breaks} (goal : Nat) : ∀ (n : Nat) (p : List Nat) (c : Vbceah.Clock), (Vbceah.bestFrom bs e1 e2 goal n p c).length ≤ n
  | 0, _, _ => Nat.le_refl _
  | n + 1, p, c => by
    rw [bestFrom_succ goal n (p, c)]
    split
    · exact Nat.zero_le _
    · split
      · exact Nat.zero_le _
      · rename_i y _
        have := bestFrom_len (bs := bs) (e1 := e1) (e2 := e2) goal n y.1 y.2
        rw [List.length_cons]
        omega
theorem step_now (s : Vbceah.State) : Vbceah.step s [[3]] = (s, Vbceah.listRow s.order) := rfl
theorem step_ends (s : Vbceah.State) : Vbceah.step s [[4]] = (s, VbceCore.ints [(Vbceah.clockNow s s.order).one, (Vbceah.clockNow s s.order).two, if Vbceah.isWhole s.books s.order = true then 1 else 0]) := rfl
theorem step_times (s : Vbceah.State) : Vbceah.step s [[5]] = (s, ((Vbceah.clocks s.empty1 s.empty2 ⟨0, 0⟩ (Vbceah.sheetsOf s.books s.order [])).length : Int) :: VbceCore.ints ((Vbceah.clocks s.empty1 s.empty2 ⟨0, 0⟩ (Vbceah.sheetsOf s.books s.order [])).flatMap fun c => [c.one, c.two])) := rfl
theorem step_waits (s : Vbceah.State) : Vbceah.step s [[6]] = (s, Vbceah.listRow (((Vbceah.clocks s.empty1 s.empty2 ⟨0, 0⟩ (Vbceah.sheetsOf s.books s.order [])).zip (⟨0, 0⟩ :: Vbceah.clocks s.empty1 s.empty2 ⟨0, 0⟩ (Vbceah.sheetsOf s.books s.order []))).map fun x => x.1.one - x.2.two)) := rfl
theorem step_least (s : Vbceah.State) : Vbceah.step s [[7]] = (s, VbceCore.ints [Vbceah.least s.books s.empty1 s.empty2, Vbceah.ordersOf s.books]) := rfl
theorem step_best (s : Vbceah.State) : Vbceah.step s [[8]] = (s, Vbceah.listRow (Vbceah.best s.books s.empty1 s.empty2)) := rfl
theorem step_left (s : Vbceah.State) : Vbceah.step s [[9]] = (s, [(Vbceah.leastFrom s.books s.empty1 s.empty2 (Vbceah.progress s.books s.order) (Vbceah.clockNow s s.order) : Int)]) := rfl
theorem row_iv (l : List Nat) : V.int ((nats l).length : Int) :: nats l = iv (Vbceah.listRow l) := by
  rw [nats_len]
  unfold nats iv Vbceah.listRow VbceCore.ints
  rw [List.map_cons, List.map_map]
  rfl
section
variable {P : Program} {w : World} {K : PySem.W.Frag} {mg : Str → Option Value} {base : Heap} {C : Addr}
abbrev gStep (c : List (List Int)) : Vbceah.State → List Int → Vbceah.State × List Int := fun s _ => Vbceah.step s c
abbrev any : List Int → Prop := fun _ => True
/-- a call that changes nothing -/
theorem tells {g : Vbceah.State → List Int → Vbceah.State × List Int} {pre : List Int → Prop} {vs : List V} {H : Hp} {Q : VK} {E : XK} (hg : ∀ s ns, (g s ns).1 = s) (h : spAct C g pre vs H Q E) : ∃ (G r na ba ea : Addr) (s : Vbceah.State) (ns : List Int), vs = [.ref r, .ref na] ∧ RoomAt C G H r ba ea s ∧ H na = some (.lst (iv ns)) ∧ Good s ∧ pre ns ∧
    ∀ (H' : Hp) (p : Addr), Same H H' → H p = none → H' p = some (.lst (iv (g s ns).2)) → Q (.ref p) H' := by
  obtain ⟨G, r, na, ba, ea, s, ns, e, hR, hN, n1, n2, n3, hG, gd, hp, k⟩ := h
  refine ⟨G, r, na, ba, ea, s, ns, e, hR, hN, gd, hp, fun H' p e1 e2 e3 => k H' p ba ea (.of e1) ?_ (.inl rfl) (.inl rfl) e2 e3⟩
  rw [hg]
  exact hR.stays e1
/-! ### now -/
abbrev sNow : Stmt := topS 41
theorem scNow : FnScope ["room", "numbers"] ["room", "numbers"] (C8.fnScope sNow) := C8.fnScope_by (by decide +kernel)
theorem cal_now (h : Has K mg "tell_order" ["room", "numbers"] sNow) (T : RoomTxt K C) (A : C8.Cal P w K mg base 1 "as_list" spAsList []) : C8.Cal P w K mg base 2 "tell_order" (spAct C (gStep [[3]]) any) [] := by
  obtain ⟨f, fd, D, b⟩ := h
  refine C8.cal0 D b .nil scNow (fun vs H Q E h => ?_) fun cdv A' outer s H vs Q E hr h => ⟨_,
    pss_one (ps_ret (C8.pe_c A hr (by decide) (by rfl) (pa_cons (pe_fld (pv 0) rfl) pa_nil))), ?_⟩
  · obtain ⟨G, r, na, ba, ea, s, ns, rfl, _⟩ := h
    rfl
  obtain ⟨G, r, na, ba, ea, s, ns, rfl, hR, hN, g, _, k⟩ := tells (fun _ _ => rfl) h
  obtain ⟨dx, oa, hr1, hB, hE, hO⟩ := hR.flds
  have ho := runs_len g.runs
  have h12 := g.twelve
  refine ⟨_, rfl, r, C, dx, _, _, rfl, hr1, T.cl, T.nO, lkO .., oa, _, rfl, hO, by rw [nats_len]; omega, fun H' p e1 e2 e3 => k H' p e1 e2 ?_⟩
  rw [row_iv] at e3
  exact e3
/-! ### ends -/
abbrev sEnds : Stmt := topS 42
theorem scEnds : FnScope ["room", "numbers", "first", "second"] ["room", "numbers"] (C8.fnScope sEnds) := C8.fnScope_by (by decide +kernel)
theorem cal_ends (h : Has K mg "tell_ends" ["room", "numbers"] sEnds) (S : C8.Cal P w K mg base 5 "standings_of" (spStandings C) []) (W : C8.Cal P w K mg base 2 "whole_flag" (spWhole C) []) : C8.Cal P w K mg base 6 "tell_ends" (spAct C (gStep [[4]]) any) [] := by
  obtain ⟨f, fd, D, b⟩ := h
  refine C8.cal0 D b .nil scEnds (fun vs H Q E h => ?_) fun cdv A outer s H vs Q E hr h => ⟨_,
    pss_cons (ps_asg (pe_ix ix_tup (pe_ix ix_list (C8.pe_c S hr (by decide) (by rfl) (pa_cons (pv 0) pa_nil)) (pe_un un_neg pe_int) (fun _ _ => rfl)) pe_int (fun _ _ => rfl)) (pg_tup rfl (pgs_cons (pg_name (i := 2) scEnds.nd rfl (.inl rfl)) (pgs_cons (pg_name (i := 3) scEnds.nd rfl (.inl rfl)) pgs_nil))))
    (pss_one (ps_ret (pe_lst (pa_cons (pv 2) (pa_cons (pv 3) (pa_cons (C8.pe_c W hr (by decide) (by rfl) (pa_cons (pv 0) pa_nil)) pa_nil)))))), ?_⟩
  · obtain ⟨G, r, na, ba, ea, s, ns, rfl, _⟩ := h
    rfl
  obtain ⟨G, r, na, ba, ea, s, ns, rfl, hR, hN, g, _, k⟩ := tells (fun _ _ => rfl) h
  refine ⟨_, rfl, G, r, ba, ea, s, rfl, hR, g, fun H1 p g1 hT => ?_⟩
  obtain ⟨as, z, hz, ⟨pa, ca, hz1, _, hz2⟩⟩ := last_at hT
  refine ⟨_, rfl, p, _, _, _, rfl, rfl, .inl (.inl hz), atI_last _ _, z, _, 1, _, rfl, rfl, .inl (.inl hz1), rfl, ca, _, rfl, .inl (.inl hz2), rfl, _, _, rfl, _, _, rfl, rfl, ?_⟩
  refine ⟨_, rfl, _, rfl, _, rfl, G, r, ba, ea, s, rfl, hR.stays g1, g, fun H2 g2 => ⟨(by show 3 ≤ sizeLine; decide), fun q hq => ?_⟩⟩
  refine k _ q (same_upd (g1.trans g2) (g1.free (g2.free hq))) (g1.free (g2.free hq)) ?_
  have el := lead0_eq (e1 := s.empty1) (e2 := s.empty2) g.runs
  unfold lead0 at el
  rw [upd_same, el]
  show _ = some (HO.lst (iv (Vbceah.step s [[4]]).2))
  rw [step_ends]
  unfold iv VbceCore.ints Vbceah.clockNow
  by_cases c : Vbceah.isWhole s.books s.order = true
  · rw [if_pos c, if_pos c]
    rfl
  · rw [if_neg c, if_neg c]
    rfl
/-! ### times -/
abbrev sTimes : Stmt := topS 43
theorem scTimes : FnScope ["room", "numbers", "answer", "taken", "clocks"] ["room", "numbers"] (C8.fnScope sTimes) := C8.fnScope_by (by decide +kernel)
def clocksI (l : List Stand) : List Int := VbceCore.ints ((l.map Prod.snd).flatMap fun c => [c.one, c.two])
theorem clocksI_snoc (l : List Stand) (x : Stand) : clocksI (l ++ [x]) = clocksI l ++ [(x.2.one : Int), (x.2.two : Int)] := by
  unfold clocksI VbceCore.ints
  rw [List.map_append, List.flatMap_append, List.map_append]
  rfl
theorem clocksI_len : ∀ l : List Stand, (clocksI l).length = 2 * l.length
  | [] => rfl
  | x :: l => by
    have i := clocksI_len l
    show (clocksI l).length + 2 = 2 * (l.length + 1)
    omega
theorem cal_times (h : Has K mg "tell_times" ["room", "numbers"] sTimes) (T : RoomTxt K C) (O : Own mg) (S : C8.Cal P w K mg base 5 "standings_of" (spStandings C) []) : C8.Cal P w K mg base 6 "tell_times" (spAct C (gStep [[5]]) any) [] := by
  obtain ⟨f, fd, D, b⟩ := h
  refine C8.cal0 D b .nil scTimes (fun vs H Q E h => ?_) fun cdv A outer s H vs Q E hr h => ⟨_,
    pss_cons (ps_set (i := 2) scTimes.nd rfl (.inl rfl) (pe_lst (pa_cons (pe_callB call_len_seq (by rfl) O.len PySem.boot_len (pa_cons (pe_fld (pv 0) rfl) pa_nil)) pa_nil)))
    (pss_cons (ps_for PassesOwn.never rfl (pi_list (pe_slice sl_list (C8.pe_c S hr (by decide) (by rfl) (pa_cons (pv 0) pa_nil)) (po_some pe_int) po_none)) (pg_tup rfl (pgs_cons (pg_name (i := 3) scTimes.nd rfl (.inl rfl)) (pgs_cons (pg_name (i := 4) scTimes.nd rfl (.inl rfl)) pgs_nil)))
      (pss_one (ps_expr (pe_bm PySem.F.plainAttrs_list PySem.F.slot_list_extend PySem.F.type_list_extend Rx.mt_extT (pv 2) (pa_cons (pv 4) pa_nil)))))
    (pss_one (ps_ret (pv 2)))), ?_⟩
  · obtain ⟨G, r, na, ba, ea, s, ns, rfl, _⟩ := h
    rfl
  obtain ⟨G, r, na, ba, ea, s, ns, rfl, hR, hN, g, _, k⟩ := tells (fun _ _ => rfl) h
  obtain ⟨dx, oa, hr1, hB, hE, hO⟩ := hR.flds
  have ho := runs_len g.runs
  have h12 := g.twelve
  refine ⟨_, rfl, r, C, dx, _, _, rfl, hr1, T.cl, T.nO, lkO .., oa, _, rfl, .inl (.inl (.inl hO)), (by show 1 ≤ sizeLine; decide), fun L hL => ?_⟩
  have s1 := same_new (o := .lst [V.int ((nats s.order).length : Int)]) hL
  refine ⟨_, rfl, G, r, ba, ea, s, rfl, hR.stays s1, g, fun H1 p g1 hT => ?_⟩
  obtain ⟨as, hp, hP⟩ := hT
  cases hP with
  | cons hx0 hP =>
    rename_i a0 as
    have tl := trail_len (e1 := s.empty1) (e2 := s.empty2) g.runs
    have tc := trail_clocks (e1 := s.empty1) (e2 := s.empty2) g.runs
    generalize htr : trail s.books s.empty1 s.empty2 (first0 s.books) s.order = tr at hP tl tc
    refine ⟨_, rfl, p, _, rfl, .inl (.inl hp), fun q hq => ?_⟩
    have ec : cutV ((a0 :: as).map V.ref) (some 1) none = as.map V.ref := cut_from (xs := (a0 :: as).map V.ref) (k := 1) (by rw [List.length_map]; exact Nat.succ_le_succ (Nat.zero_le _))
    have hq' : upd H1 q (.lst (cutV ((a0 :: as).map V.ref) (some 1) none)) q = some (.lst (as.map V.ref)) := by rw [upd_same, ec]
    have s2 := (s1.trans g1).trans (same_new (o := .lst (cutV ((a0 :: as).map V.ref) (some 1) none)) hq)
    have hL1 := (g1.trans (same_new (o := .lst (cutV ((a0 :: as).map V.ref) (some 1) none)) hq)) _ _ (upd_same (H := H) (a := L) (o := .lst [V.int ((nats s.order).length : Int)]))
    have hPq : Paired (fun p x => StandAt (upd H1 q (.lst (cutV ((a0 :: as).map V.ref) (some 1) none))) p x) as tr := Paired.mapP hP fun _ _ x => StandAt.stays _ _ _ _ (same_new hq) x
    generalize upd H1 q (.lst (cutV ((a0 :: as).map V.ref) (some 1) none)) = H2 at hq' s2 hL1 hPq
    have el : as.length = tr.length := Paired.length hPq
    have nqL : q ≠ L := fun z => by
      rw [z, hL1] at hq'
      have := HO.lst.inj (Option.some.inj hq')
      cases as with
      | nil => cases this
      | cons a b =>
        have := (List.cons.inj this).1
        cases this
    refine ⟨q, rfl, ⟨_, .inl (.inl hq')⟩, for_list (K := K) (a := q) (xs := as.map V.ref) (fun i σ H' => ∃ v1 v2 : Option V, σ = [some (.ref r), some (.ref na), some (.ref L), v1, v2] ∧ H' q = some (.lst (as.map V.ref)) ∧ Paired (fun p x => StandAt H' p x) as tr ∧
      H' L = some (.lst (.int (s.order.length : Int) :: iv (clocksI (tr.take i)))) ∧ ∀ b o, H b = some o → H' b = some o) ⟨none, none, rfl, hq', hPq, by rw [hL1, nats_len]; rfl, s2⟩ (fun i σ H' _ ⟨_, _, _, h, _⟩ => .inl (.inl h)) ?_ ?_⟩
    · rintro i x σ H' hi ⟨v1, v2, rfl, hq2, hP2, hL2, s5⟩
      obtain ⟨z, hz, rfl⟩ := map_get hi
      obtain ⟨y, hy, hSz⟩ := LstOf.at hP2 hz
      obtain ⟨pz, cz, e1, e2, e3⟩ := hSz
      refine ⟨z, _, rfl, .inl (.inl e1), rfl, _, _, rfl, _, _, rfl, rfl, ?_⟩
      refine ⟨_, rfl, .inl ⟨rfl, _, .inl (.inl hL2)⟩, _, rfl, L, cz, _, _, rfl, rfl, hL2, .inl (.inl e3), ?_, ?_⟩
      · rw [List.length_cons, iv_len, clocksI_len, List.length_take, sizeLine_eq]
        show _ + 2 ≤ _
        omega
      refine ⟨_, _, rfl, ?_, Paired.mapP hP2 fun _ _ h => stand_upd hL2 h, ?_, fun b o e => ?_⟩
      · rw [upd_ne nqL]
        exact hq2
      · rw [upd_same, take_get hy, clocksI_snoc]
        unfold iv
        rw [List.map_append]
        rfl
      · rw [upd_ne (ne_of_none e hL)]
        exact s5 b o e
    · rintro σ H' ⟨v1, v2, rfl, hq2, hP2, hL2, s5⟩
      refine ⟨_, rfl, k H' L s5 hL ?_⟩
      rw [List.length_map, el, List.take_length] at hL2
      show _ = some (HO.lst (iv (Vbceah.step s [[5]]).2))
      rw [step_times, hL2, ← tc, ← tl, List.length_map]
      rfl
/-! ### waits -/
abbrev sWaits : Stmt := topS 44
theorem scWaits : FnScope ["room", "numbers", "waits", "free", "taken", "clocks"] ["room", "numbers"] (C8.fnScope sWaits) := C8.fnScope_by (by decide +kernel)
def waitsN (l : List Vbceah.Clock) : List Nat := (l.zip (⟨0, 0⟩ :: l)).map fun x => x.1.one - x.2.two
theorem waits_get {l : List Vbceah.Clock} {i : Nat} {c : Vbceah.Clock} (h : l[i]? = some c) : (waitsN l)[i]? = some (c.one - (((⟨0, 0⟩ : Vbceah.Clock) :: l).getD i ⟨0, 0⟩).two) := by
  have hi := (List.getElem?_eq_some_iff.mp h).1
  unfold waitsN
  have e2 : ((⟨0, 0⟩ : Vbceah.Clock) :: l)[i]? = some (((⟨0, 0⟩ : Vbceah.Clock) :: l).getD i ⟨0, 0⟩) := by
    rw [List.getD_eq_getElem?_getD, List.getElem?_eq_getElem (by simp only [List.length_cons]; omega)]
    rfl
  rw [List.getElem?_map, (List.getElem?_zip_eq_some (z := (c, _))).mpr ⟨h, e2⟩]
  rfl
theorem waits_len (l : List Vbceah.Clock) : (waitsN l).length = l.length := by
  unfold waitsN
  rw [List.length_map, List.length_zip, List.length_cons]
  omega
theorem cal_waits (h : Has K mg "tell_waits" ["room", "numbers"] sWaits) (T : RoomTxt K C) (O : Own mg) (A : C8.Cal P w K mg base 1 "as_list" spAsList []) (S : C8.Cal P w K mg base 5 "standings_of" (spStandings C) []) : C8.Cal P w K mg base 6 "tell_waits" (spAct C (gStep [[6]]) any) [] := by
  obtain ⟨f, fd, D, b⟩ := h
  refine C8.cal0 D b .nil scWaits (fun vs H Q E h => ?_) fun cdv A' outer s H vs Q E hr h => ⟨_,
    pss_cons (ps_set (i := 2) scWaits.nd rfl (.inl rfl) (pe_lst pa_nil))
    (pss_cons (ps_set (i := 3) scWaits.nd rfl (.inl rfl) pe_int)
    (pss_cons (ps_for PassesOwn.never rfl (pi_list (pe_slice sl_list (C8.pe_c S hr (by decide) (by rfl) (pa_cons (pv 0) pa_nil)) (po_some pe_int) po_none)) (pg_tup rfl (pgs_cons (pg_name (i := 4) scWaits.nd rfl (.inl rfl)) (pgs_cons (pg_name (i := 5) scWaits.nd rfl (.inl rfl)) pgs_nil)))
      (pss_cons (ps_expr (pe_bm PySem.F.plainAttrs_list PySem.F.slot_list_append PySem.F.type_list_append mt_append (pv 2) (pa_cons (pe_callB (call_max2 rfl) (by rfl) O.max (by decide +kernel) (pa_cons pe_int (pa_cons (pe_op op_sub (pe_ix ix_tup (pv 5) pe_int (fun _ _ => rfl)) (pv 3)) pa_nil))) pa_nil)))
      (pss_one (ps_set (i := 3) scWaits.nd rfl (.inl rfl) (pe_ix ix_tup (pv 5) pe_int (fun _ _ => rfl))))))
    (pss_one (ps_ret (C8.pe_c A hr (by decide) (by rfl) (pa_cons (pv 2) pa_nil)))))), ?_⟩
  · obtain ⟨G, r, na, ba, ea, s, ns, rfl, _⟩ := h
    rfl
  obtain ⟨G, r, na, ba, ea, s, ns, rfl, hR, hN, g, _, k⟩ := tells (fun _ _ => rfl) h
  have ho := runs_len g.runs
  have h12 := g.twelve
  refine ⟨(by show 0 ≤ sizeLine; decide), fun L hL => ?_⟩
  have s1 := same_new (o := .lst []) hL
  refine ⟨_, rfl, G, r, ba, ea, s, rfl, hR.stays s1, g, fun H1 p g1 hT => ?_⟩
  obtain ⟨as, hp, hP⟩ := hT
  cases hP with
  | cons hx0 hP =>
    rename_i a0 as
    have tl := trail_len (e1 := s.empty1) (e2 := s.empty2) g.runs
    have tc := trail_clocks (e1 := s.empty1) (e2 := s.empty2) g.runs
    generalize htr : trail s.books s.empty1 s.empty2 (first0 s.books) s.order = tr at hP tl tc
    refine ⟨_, rfl, p, _, rfl, .inl (.inl hp), fun q hq => ?_⟩
    have ec : cutV ((a0 :: as).map V.ref) (some 1) none = as.map V.ref := cut_from (xs := (a0 :: as).map V.ref) (k := 1) (by rw [List.length_map]; exact Nat.succ_le_succ (Nat.zero_le _))
    have hq' : upd H1 q (.lst (cutV ((a0 :: as).map V.ref) (some 1) none)) q = some (.lst (as.map V.ref)) := by rw [upd_same, ec]
    have s2 := (s1.trans g1).trans (same_new (o := .lst (cutV ((a0 :: as).map V.ref) (some 1) none)) hq)
    have hL1 := (g1.trans (same_new (o := .lst (cutV ((a0 :: as).map V.ref) (some 1) none)) hq)) _ _ (upd_same (H := H) (a := L) (o := .lst []))
    have hPq : Paired (fun p x => StandAt (upd H1 q (.lst (cutV ((a0 :: as).map V.ref) (some 1) none))) p x) as tr := Paired.mapP hP fun _ _ x => StandAt.stays _ _ _ _ (same_new hq) x
    have nqL : q ≠ L := fun z => by
      have := g1 _ _ (upd_same (H := H) (a := L) (o := .lst []))
      rw [← z, hq] at this
      cases this
    generalize upd H1 q (.lst (cutV ((a0 :: as).map V.ref) (some 1) none)) = H2 at hq' s2 hL1 hPq
    have el : as.length = tr.length := Paired.length hPq
    have ecl : (tr.map Prod.snd).length = tr.length := List.length_map _
    refine ⟨q, rfl, ⟨_, .inl (.inl hq')⟩, for_list (K := K) (a := q) (xs := as.map V.ref) (fun i σ H' => ∃ v1 v2 : Option V, σ = [some (.ref r), some (.ref na), some (.ref L), some (.int ((((⟨0, 0⟩ : Vbceah.Clock) :: tr.map Prod.snd).getD i ⟨0, 0⟩).two : Nat)), v1, v2] ∧ H' q = some (.lst (as.map V.ref)) ∧ Paired (fun p x => StandAt H' p x) as tr ∧
      H' L = some (.lst (nats ((waitsN (tr.map Prod.snd)).take i))) ∧ ∀ b o, H b = some o → H' b = some o) ⟨none, none, rfl, hq', hPq, hL1, s2⟩ (fun i σ H' _ ⟨_, _, _, h, _⟩ => .inl (.inl h)) ?_ ?_⟩
    · rintro i x σ H' hi ⟨v1, v2, rfl, hq2, hP2, hL2, s5⟩
      obtain ⟨z, hz, rfl⟩ := map_get hi
      obtain ⟨y, hy, hSz⟩ := LstOf.at hP2 hz
      obtain ⟨pz, cz, e1, e2, e3⟩ := hSz
      have hyc : (tr.map Prod.snd)[i]? = some y.2 := by rw [List.getElem?_map, hy]; rfl
      have hw := waits_get hyc
      have hlt : i < tr.length := (List.getElem?_eq_some_iff.mp hy).1
      refine ⟨z, _, rfl, .inl (.inl e1), rfl, _, _, rfl, _, _, rfl, rfl, ?_⟩
      refine ⟨_, rfl, .inl ⟨rfl, _, .inl (.inl hL2)⟩, _, rfl, cz, _, 0, _, rfl, rfl, .inl (.inl e3), rfl, _, rfl, _, _, rfl, rfl, _, _, rfl, L, _, _, rfl, rfl, hL2, ?_, ?_⟩
      · rw [nats_len, List.length_take, sizeLine_eq]
        omega
      have e3' : ∀ ys, ClockAt (upd H' L (.lst ys)) cz y.2 := fun ys => by unfold ClockAt; rw [upd_ne (ne_of e3 hL2 (fun z => nomatch z))]; exact e3
      refine ⟨_, rfl, cz, _, 1, _, rfl, rfl, .inl (.inl (e3' _)), rfl, some (.ref pz), some (.ref cz), ?_, ?_, Paired.mapP hP2 fun _ _ h => stand_upd hL2 h, ?_, fun b o e => ?_⟩
      · have e4 : ((⟨0, 0⟩ : Vbceah.Clock) :: tr.map Prod.snd).getD (i + 1) ⟨0, 0⟩ = y.2 := by
          rw [List.getD_eq_getElem?_getD, List.getElem?_cons_succ, hyc]
          rfl
        rw [e4]
        rfl
      · rw [upd_ne nqL]
        exact hq2
      · rw [upd_same, take_get hw]
        unfold nats
        rw [List.map_append]
        have e5 : (if ((y.2.one : Int) - ((((⟨0, 0⟩ : Vbceah.Clock) :: tr.map Prod.snd).getD i ⟨0, 0⟩).two : Nat)) > 0 then ((y.2.one : Int) - ((((⟨0, 0⟩ : Vbceah.Clock) :: tr.map Prod.snd).getD i ⟨0, 0⟩).two : Nat)) else 0) = ((y.2.one - (((⟨0, 0⟩ : Vbceah.Clock) :: tr.map Prod.snd).getD i ⟨0, 0⟩).two : Nat) : Int) := by
          split <;> omega
        rw [e5]
        rfl
      · rw [upd_ne (ne_of_none e hL)]
        exact s5 b o e
    · rintro σ H' ⟨v1, v2, rfl, hq2, hP2, hL2, s5⟩
      rw [List.length_map, el, List.take_of_length_le (by rw [waits_len, ecl]; exact Nat.le_refl _)] at hL2
      refine ⟨_, rfl, L, _, rfl, hL2, by rw [nats_len, waits_len, ecl]; omega, fun H3 p3 g3 n3 e3 => k H3 p3 (Same.trans s5 g3) (Same.free s5 n3) ?_⟩
      rw [row_iv] at e3
      show _ = some (HO.lst (iv (Vbceah.step s [[6]]).2))
      rw [e3, step_waits, ← tc]
      rfl
/-! ### least, best, left -/
abbrev sTLeast : Stmt := topS 45
theorem scTLeast : FnScope ["room", "numbers", "end"] ["room", "numbers"] (C8.fnScope sTLeast) := C8.fnScope_by (by decide +kernel)
theorem cal_tLeast (h : Has K mg "tell_least" ["room", "numbers"] sTLeast) (T : RoomTxt K C) (F1 : C8.Cal P w K mg base 1 "first_standing" spFirst []) (Le : C8.Cal P w K mg base 5 "least_end" spLeast []) (Or' : C8.Cal P w K mg base 1 "count_whole_orders" spOrders []) : C8.Cal P w K mg base 6 "tell_least" (spAct C (gStep [[7]]) any) [] := by
  obtain ⟨f, fd, D, b⟩ := h
  refine C8.cal0 D b .nil scTLeast (fun vs H Q E h => ?_) fun cdv A' outer s H vs Q E hr h => ⟨_,
    pss_cons (ps_set (i := 2) scTLeast.nd rfl (.inl rfl) (C8.pe_c Le hr (by decide) (by rfl) (pa_cons (pe_fld (pv 0) rfl) (pa_cons (pe_fld (pv 0) rfl) (pa_cons (C8.pe_c F1 hr (by decide) (by rfl) (pa_cons (pe_fld (pv 0) rfl) pa_nil)) pa_nil)))))
    (pss_one (ps_ret (pe_lst (pa_cons (pv 2) (pa_cons (C8.pe_c Or' hr (by decide) (by rfl) (pa_cons (pe_fld (pv 0) rfl) pa_nil)) pa_nil))))), ?_⟩
  · obtain ⟨G, r, na, ba, ea, s, ns, rfl, _⟩ := h
    rfl
  obtain ⟨G, r, na, ba, ea, s, ns, rfl, hR, hN, g, _, k⟩ := tells (fun _ _ => rfl) h
  obtain ⟨dx, oa, hr1, hB, hE, hO⟩ := hR.flds
  have h4 := g.four
  refine ⟨_, rfl, r, C, dx, _, _, rfl, hr1, T.cl, T.nB, lkB .., _, rfl, r, C, dx, _, _, rfl, hr1, T.cl, T.nE, lkE .., _, rfl, r, C, dx, _, _, rfl, hr1, T.cl, T.nB, lkB .., ba, s.books, rfl, hB, by omega, fun H1 p g1 hS => ?_⟩
  refine ⟨ba, ea, p, s.books, s.empty1, s.empty2, _, rfl, BooksAt.stays _ _ _ _ g1 hB, EmptAt.stays _ _ _ _ g1 hE, hS, g.u1, g.u2, fit_first, h4, g.twelve, fun H2 g2 => ?_⟩
  have g12 := g1.trans g2
  refine ⟨_, rfl, _, rfl, r, C, dx, _, _, rfl, g12 _ _ hr1, T.cl, T.nB, lkB .., ba, s.books, rfl, BooksAt.stays _ _ _ _ g12 hB, g.twelve, fun H3 g3 => ⟨(by show 2 ≤ sizeLine; decide), fun q hq => ?_⟩⟩
  have s3 := g12.trans g3
  exact k _ q (same_upd s3 (s3.free hq)) (s3.free hq) upd_same
abbrev sTBest : Stmt := topS 46
theorem scTBest : FnScope ["room", "numbers"] ["room", "numbers"] (C8.fnScope sTBest) := C8.fnScope_by (by decide +kernel)
theorem cal_tBest (h : Has K mg "tell_best" ["room", "numbers"] sTBest) (T : RoomTxt K C) (A : C8.Cal P w K mg base 1 "as_list" spAsList []) (Be : C8.Cal P w K mg base 7 "first_best_order" spBest []) : C8.Cal P w K mg base 8 "tell_best" (spAct C (gStep [[8]]) any) [] := by
  obtain ⟨f, fd, D, b⟩ := h
  refine C8.cal0 D b .nil scTBest (fun vs H Q E h => ?_) fun cdv A' outer s H vs Q E hr h => ⟨_,
    pss_one (ps_ret (C8.pe_c A hr (by decide) (by rfl) (pa_cons (C8.pe_c Be hr (by decide) (by rfl) (pa_cons (pe_fld (pv 0) rfl) (pa_cons (pe_fld (pv 0) rfl) pa_nil))) pa_nil))), ?_⟩
  · obtain ⟨G, r, na, ba, ea, s, ns, rfl, _⟩ := h
    rfl
  obtain ⟨G, r, na, ba, ea, s, ns, rfl, hR, hN, g, _, k⟩ := tells (fun _ _ => rfl) h
  obtain ⟨dx, oa, hr1, hB, hE, hO⟩ := hR.flds
  refine ⟨_, rfl, r, C, dx, _, _, rfl, hr1, T.cl, T.nB, lkB .., _, rfl, r, C, dx, _, _, rfl, hr1, T.cl, T.nE, lkE .., ba, ea, s.books, s.empty1, s.empty2, rfl, hB, hE, g.u1, g.u2, g.four, g.twelve, fun H1 p g1 hO1 => ?_⟩
  refine ⟨p, _, rfl, hO1, ?_, fun H2 q g2 n2 e2 => k H2 q (g1.trans g2) (g1.free n2) ?_⟩
  · rw [nats_len]
    have a1 := bestFrom_len (bs := s.books) (e1 := s.empty1) (e2 := s.empty2) (Vbceah.least s.books s.empty1 s.empty2) (Vbceah.sheetsIn s.books) (Vbceah.zeros s.books.length) ⟨0, 0⟩
    have a2 := g.twelve
    show (Vbceah.bestFrom _ _ _ _ _ _ _).length ≤ 1000
    omega
  · rw [row_iv] at e2
    exact e2
abbrev sTLeft : Stmt := topS 47
theorem scTLeft : FnScope ["room", "numbers"] ["room", "numbers"] (C8.fnScope sTLeft) := C8.fnScope_by (by decide +kernel)
theorem cal_tLeft (h : Has K mg "tell_left" ["room", "numbers"] sTLeft) (T : RoomTxt K C) (S : C8.Cal P w K mg base 5 "standings_of" (spStandings C) []) (Le : C8.Cal P w K mg base 5 "least_end" spLeast []) : C8.Cal P w K mg base 6 "tell_left" (spAct C (gStep [[9]]) any) [] := by
  obtain ⟨f, fd, D, b⟩ := h
  refine C8.cal0 D b .nil scTLeft (fun vs H Q E h => ?_) fun cdv A' outer s H vs Q E hr h => ⟨_,
    pss_one (ps_ret (pe_lst (pa_cons (C8.pe_c Le hr (by decide) (by rfl) (pa_cons (pe_fld (pv 0) rfl) (pa_cons (pe_fld (pv 0) rfl) (pa_cons (pe_ix ix_list (C8.pe_c S hr (by decide) (by rfl) (pa_cons (pv 0) pa_nil)) (pe_un un_neg pe_int) (fun _ _ => rfl)) pa_nil)))) pa_nil))), ?_⟩
  · obtain ⟨G, r, na, ba, ea, s, ns, rfl, _⟩ := h
    rfl
  obtain ⟨G, r, na, ba, ea, s, ns, rfl, hR, hN, g, _, k⟩ := tells (fun _ _ => rfl) h
  obtain ⟨dx, oa, hr1, hB, hE, hO⟩ := hR.flds
  refine ⟨_, rfl, r, C, dx, _, _, rfl, hr1, T.cl, T.nB, lkB .., _, rfl, r, C, dx, _, _, rfl, hr1, T.cl, T.nE, lkE .., _, rfl, G, r, ba, ea, s, rfl, hR, g, fun H1 p g1 hT => ?_⟩
  obtain ⟨as, z, hz, hS⟩ := last_at hT
  have el := lead0_eq (e1 := s.empty1) (e2 := s.empty2) g.runs
  have F := lead0_fit (e2 := s.empty2) g.u1 g.runs
  unfold lead0 at el F
  rw [el] at hS F
  refine ⟨_, rfl, p, _, _, _, rfl, rfl, .inl (.inl hz), atI_last _ _, ba, ea, z, s.books, s.empty1, s.empty2, _, rfl, BooksAt.stays _ _ _ _ g1 hB, EmptAt.stays _ _ _ _ g1 hE, hS, g.u1, g.u2, F, g.four, g.twelve, fun H2 g2 => ⟨(by show 1 ≤ sizeLine; decide), fun q hq => ?_⟩⟩
  have s3 := g1.trans g2
  exact k _ q (same_upd s3 (s3.free hq)) (s3.free hq) upd_same
end
end Rm

set_option Elab.async false
set_option linter.all false
set_option maxRecDepth 100000
set_option maxHeartbeats 4000000
/-! The calls that change: book, empty, order. -/
namespace Rm
open PySem PySem.Spec PyProof.Rows L2
theorem ifB' {c : Bool} {A B : Prop} (h2 : c = false → B) (h1 : c = true → A) : if c = true then A else B := ifB h1 h2
theorem PairSheet {H : Hp} {p : Addr} {r : List (Nat × Nat)} (h : LstOf PairAt H p r) : BookAt H p (r.map fun x => (⟨x.1, x.2⟩ : Vbceah.Sheet)) := by
  obtain ⟨as, h1, h2⟩ := h
  refine ⟨as, h1, ?_⟩
  clear h1
  induction h2 with
  | nil => exact .nil
  | cons r t ih => exact .cons r ih
/-- what an object's list changed doesn't touch -/
theorem book_upd {H : Hp} {d p : Addr} {o : HO} {b : Vbceah.Book} (hd : ∃ xs, H d = some (.lst xs)) (hp : p ≠ d) (h : BookAt H p b) : BookAt (upd H d o) p b := by
  obtain ⟨xs, hd⟩ := hd
  obtain ⟨as, h1, h2⟩ := h
  refine ⟨as, by rw [upd_ne hp]; exact h1, Paired.mapP h2 fun q x hq => ?_⟩
  show _ = some (HO.tup _)
  rw [upd_ne (ne_of hq hd (fun z => nomatch z))]
  exact hq
theorem breaks_upd {H : Hp} {d p : Addr} {o : HO} {b : Vbceah.Breaks} (hd : ∃ xs, H d = some (.lst xs)) (hp : p ≠ d) (h : BreaksAt H p b) : BreaksAt (upd H d o) p b := by
  obtain ⟨xs, hd⟩ := hd
  obtain ⟨as, h1, h2⟩ := h
  refine ⟨as, by rw [upd_ne hp]; exact h1, Paired.mapP h2 fun q x hq => ?_⟩
  show _ = some (HO.tup _)
  rw [upd_ne (ne_of hq hd (fun z => nomatch z))]
  exact hq
theorem pmem {α β : Type} {F G : α → β → Prop} : ∀ {l₁ : List α} {l₂ : List β}, Paired F l₁ l₂ → (∀ a b, a ∈ l₁ → F a b → G a b) → Paired G l₁ l₂
  | _, _, .nil, _ => .nil
  | _, _, .cons r t, f => .cons (f _ _ (List.mem_cons_self ..) r) (pmem t fun a b ha => f a b (List.mem_cons_of_mem _ ha))
section
variable {P : Program} {w : World} {K : PySem.W.Frag} {mg : Str → Option Value} {base : Heap} {C : Addr}
abbrev gBook : Vbceah.State → List Int → Vbceah.State × List Int := fun s ns => Vbceah.step s [[0], ns]
abbrev preL : List Int → Prop := fun ns => ns.length ≤ 30
abbrev sBook : Stmt := topS 37
theorem scBook : FnScope ["room", "numbers", "sheets"] ["room", "numbers"] (C8.fnScope sBook) := C8.fnScope_by (by decide +kernel)
theorem cal_book (h : Has K mg "add_book" ["room", "numbers"] sBook) (T : RoomTxt K C) (O : Own mg) (Wi : C8.Cal P w K mg base 1 "all_within" spWithin []) (Tw : C8.Cal P w K mg base 1 "by_twos" spTwos []) (Co : C8.Cal P w K mg base 1 "count_sheets" spCount []) :
    C8.Cal P w K mg base 2 "add_book" (spAct C gBook preL) [] := by
  obtain ⟨f, fd, D, b⟩ := h
  refine C8.cal0 D b .nil scBook (fun vs H Q E h => ?_) fun cdv A' outer s H vs Q E hr h => ⟨_,
    pss_cons (ps_if (PW.pt (pw_or (pt_not (pt_chain op_le op_le pe_int (pe_callB call_len_seq (by rfl) O.len PySem.boot_len (pa_cons (pv 1) pa_nil)) pe_int)) (pw_or (pt_cmpR op_eq (pe_op op_mod (pe_callB call_len_seq (by rfl) O.len PySem.boot_len (pa_cons (pv 1) pa_nil)) pe_int) pe_int (nomark _))
      (pw_or1 (pt_not (pt_val (C8.pe_c Wi hr (by decide) (by rfl) (pa_cons (pv 1) (pa_cons pe_int (pa_cons pe_int pa_nil))))))))))
      (pss_one (ps_ret (pe_lst (pa_cons (pe_un un_neg pe_int) pa_nil)))) pss_nil)
    (pss_cons (ps_set (i := 2) scBook.nd rfl (.inl rfl) (C8.pe_c Tw hr (by decide) (by rfl) (pa_cons (pv 1) pa_nil)))
    (pss_cons (ps_if (PW.pt (pw_or (pt_cmpR op_eq (pe_callB call_len_seq (by rfl) O.len PySem.boot_len (pa_cons (pe_fld (pv 0) rfl) pa_nil)) pe_int (nomark _)) (pw_or1 (pt_cmpR op_gt (pe_op op_add (C8.pe_c Co hr (by decide) (by rfl) (pa_cons (pe_fld (pv 0) rfl) pa_nil)) (pe_callB call_len_seq (by rfl) O.len PySem.boot_len (pa_cons (pv 2) pa_nil))) pe_int (nomark _)))))
      (pss_one (ps_ret (pe_lst (pa_cons (pe_un un_neg pe_int) pa_nil)))) pss_nil)
    (pss_cons (ps_expr (pe_bm PySem.F.plainAttrs_list PySem.F.slot_list_append PySem.F.type_list_append mt_append (pe_fld (pv 0) rfl) (pa_cons (pv 2) pa_nil)))
    (pss_one (ps_ret (pe_lst (pa_cons (pe_op op_sub (pe_callB call_len_seq (by rfl) O.len PySem.boot_len (pa_cons (pe_fld (pv 0) rfl) pa_nil)) pe_int) pa_nil))))))), ?_⟩
  · obtain ⟨G, r, na, ba, ea, s, ns, rfl, _⟩ := h
    rfl
  obtain ⟨G, r, na, ba, ea, s, ns, rfl, hR, hN, n1, n2, n3, ⟨oG, hG⟩, g, hpre, k⟩ := h
  have h4 := g.four
  have hpre' : ns.length ≤ 30 := hpre
  -- the refusal of what isn't told so
  have bad : ∀ H1, Same H H1 → Vbceah.step s [[0], ns] = (s, [-1]) → (tRet (tLst (tCons (tUn (rU fun i => .int (-i)) (tC (.int 1))) tNil)) : TS) { nx := fun _ H' => Q .non H', rt := Q } (start ["room", "numbers", "sheets"] [.ref r, .ref na]) H1 := fun H1 g1 e => by
    refine ⟨_, rfl, (by show 1 ≤ sizeLine; decide), fun p hp => ?_⟩
    refine k _ p ba ea (.of (same_upd g1 (g1.free hp))) ?_ (.inl rfl) (.inl rfl) (g1.free hp) ?_
    · show RoomAt C G _ r ba ea (Vbceah.step s [[0], ns]).1
      rw [e]
      exact hR.stays (same_upd g1 (g1.free hp))
    · show _ = some (HO.lst (iv (Vbceah.step s [[0], ns]).2))
      rw [e]
      exact upd_same
  have lenN : SqL K H na (iv ns) := .inl (.inl hN)
  refine ⟨_, rfl, na, _, rfl, .inl lenN, _, _, rfl, rfl, _, rfl, ifB' (fun c1 => ?_) fun c1 => ?_⟩
  · have c1' : ¬ (2 ≤ ns.length) := by have c1'' : ¬ ((2 : Int) ≤ ((iv ns).length : Nat)) := by simpa using c1
                                       rw [iv_len] at c1''; omega
    refine ⟨_, rfl, iteT (iteT ?_)⟩
    exact bad H (Same.refl H) (book_bad (.inl fun z => c1' z.1))
  have c1' : 2 ≤ ns.length := by have c1'' : ((2 : Int) ≤ ((iv ns).length : Nat)) := by simpa using c1
                                 rw [iv_len] at c1''; omega
  refine ⟨_, _, rfl, rfl, _, rfl, ?_⟩
  rw [iv_len]
  by_cases c2' : ¬ ns.length ≤ 12
  · rw [decide_eq_false (by omega)]
    exact iteT (iteT (bad H (Same.refl H) (book_bad (.inl fun z => c2' z.2))))
  have c2 : ns.length ≤ 12 := by omega
  rw [decide_eq_true (by omega)]
  refine iteF ?_
  refine ⟨_, rfl, na, _, rfl, .inl lenN, _, _, rfl, rfl, (by show (0 : Int) < 2; decide), rfl, _, rfl, ifB (fun c3 => ?_) fun c3 => ?_⟩
  · have c3' : ns.length % 2 = 1 := by
      have e := V.int.inj (of_decide_eq_true c3)
      rw [iv_len] at e
      omega
    exact iteT (bad H (Same.refl H) (book_bad (.inr (.inl c3'))))
  have c3' : ns.length % 2 = 0 := by
    have e : ¬ (((iv ns).length : Int) % 2 = 1) := fun z => of_decide_eq_false c3 (congrArg V.int z)
    rw [iv_len] at e
    omega
  refine ⟨_, rfl, na, ns, 0, 1000, rfl, hN, by omega, fun H1 g1 => ⟨_, rfl, ?_⟩⟩
  cases c4 : (ns.all fun n => VbceCore.isBetween n 0 1000) with
  | false => exact iteT (bad H1 g1 (book_bad (.inr (.inr c4))))
  | true =>
    refine iteF ?_
    obtain ⟨rr, hr2, er, el, et⟩ := book_good ⟨c1', c2⟩ c3' c4
    refine ⟨_, rfl, na, rr, rfl, by rw [← er]; exact g1 _ _ hN, by omega, fun H2 p g2 hp hPr => ?_⟩
    have g12 := g1.trans g2
    have hp0 := g1.free hp
    have hBk := PairSheet hPr
    obtain ⟨dx, oa, p1, q1, as, hr1, hb1, hbp, he1, he2, he3, ho1, d1, d2, d3, d4, d5, d6, d7, d8, m1, m2, m3, m4, m5, m6⟩ := hR
    have hR' : RoomAt C G H r ba ea s := ⟨dx, oa, p1, q1, as, hr1, hb1, hbp, he1, he2, he3, ho1, d1, d2, d3, d4, d5, d6, d7, d8, m1, m2, m3, m4, m5, m6⟩
    have lenB : (as.map V.ref).length = s.books.length := by rw [List.length_map]; exact Paired.length hbp
    have elb : (rr.map fun x => (⟨x.1, x.2⟩ : Vbceah.Sheet)).length = rr.length := List.length_map _
    have full : ∀ H3, Same H H3 → (s.books.length = 4 ∨ 12 < Vbceah.sheetsIn s.books + (rr.map fun x => (⟨x.1, x.2⟩ : Vbceah.Sheet)).length) → ∀ q, H3 q = none → Q (.ref q) (upd H3 q (.lst [.int (-3)])) := fun H3 g3 c q hq => by
      have e := book_full (s := s) et c h4
      refine k _ q ba ea (.of (same_upd g3 (g3.free hq))) ?_ (.inl rfl) (.inl rfl) (g3.free hq) ?_
      · show RoomAt C G _ r ba ea (Vbceah.step s [[0], ns]).1
        rw [e]
        exact hR'.stays (same_upd g3 (g3.free hq))
      · show _ = some (HO.lst (iv (Vbceah.step s [[0], ns]).2))
        rw [e]
        exact upd_same
    refine ⟨_, rfl, r, C, dx, _, _, rfl, g12 _ _ hr1, T.cl, T.nB, lkB .., ba, _, rfl, .inl (.inl (.inl (g12 _ _ hb1))), rfl, _, rfl, ifB (fun c5 => ?_) fun c5 => ?_⟩
    · have c5' : s.books.length = 4 := by
        have e := V.int.inj (of_decide_eq_true c5)
        rw [lenB] at e
        omega
      exact iteT ⟨_, rfl, (by show 1 ≤ sizeLine; decide), fun q hq => full H2 g12 (.inl c5') q hq⟩
    have c5' : s.books.length ≠ 4 := fun z => of_decide_eq_false c5 (by rw [lenB, z]; rfl)
    refine ⟨_, rfl, r, C, dx, _, _, rfl, g12 _ _ hr1, T.cl, T.nB, lkB .., ba, s.books, rfl, ⟨as, g12 _ _ hb1, Paired.mapP hbp fun _ _ x => BookAt.stays _ _ _ _ g12 x⟩, by omega, fun H3 g3 => ?_⟩
    have g13 := g12.trans g3
    obtain ⟨ts, hpl, hpt⟩ := BookAt.stays _ _ _ _ g3 hBk
    have lt : (ts.map V.ref).length = rr.length := by rw [List.length_map, Paired.length hpt, elb]
    refine ⟨_, rfl, p, _, rfl, .inl (.inl (.inl hpl)), _, _, rfl, rfl, _, _, rfl, rfl, _, rfl, ifB (fun c6 => ?_) fun c6 => ?_⟩
    · have c6' : 12 < Vbceah.sheetsIn s.books + rr.length := by
        have e := of_decide_eq_true c6
        rw [lt] at e
        omega
      exact ⟨_, rfl, (by show 1 ≤ sizeLine; decide), fun q hq => full H3 g13 (.inr (by rw [elb]; exact c6')) q hq⟩
    have c6' : ¬ 12 < Vbceah.sheetsIn s.books + rr.length := by
      have e := of_decide_eq_false c6
      rw [lt] at e
      omega
    have en := book_new (s := s) et (fun z => z.elim c5' (by rw [elb]; exact c6')) h4
    have hb3 := g13 _ _ hb1
    have hr3 := g13 _ _ hr1
    refine ⟨_, rfl, r, C, dx, _, _, rfl, hr3, T.cl, T.nB, lkB .., .inl ⟨rfl, _, .inl (.inl hb3)⟩, _, rfl, ba, _, _, rfl, rfl, hb3, ?_, ?_⟩
    · rw [lenB, sizeLine_eq]
      omega
    have nr : r ≠ ba := ne_of hr3 hb3 (fun z => nomatch z)
    have npb : p ≠ ba := fun z => by rw [z, hb1] at hp0; cases hp0
    have npe : p ≠ ea := fun z => by rw [z, he1] at hp0; cases hp0
    have hb4 : upd H3 ba (.lst (as.map V.ref ++ [.ref p])) ba = some (.lst ((as ++ [p]).map V.ref)) := by rw [upd_same, List.map_append]; rfl
    have R4 : RoomAt C G (upd H3 ba (.lst (as.map V.ref ++ [.ref p]))) r ba ea { s with books := s.books ++ [rr.map fun x => (⟨x.1, x.2⟩ : Vbceah.Sheet)] } := by
      refine ⟨dx, oa, p1, q1, as ++ [p], by rw [upd_ne nr]; exact hr3, hb4, ?_, by rw [upd_ne (fun z => d1 z.symm)]; exact g13 _ _ he1, breaks_upd ⟨_, hb3⟩ d4 (BreaksAt.stays _ _ _ _ g13 he2), breaks_upd ⟨_, hb3⟩ d6 (BreaksAt.stays _ _ _ _ g13 he3), ?_, d1, d2, d3, d4, d5, d6, d7, ?_, m1, m2, m3, m4, m5, ?_⟩
      · refine Paired.snoc (pmem hbp fun a b ha hb => book_upd ⟨_, hb3⟩ (d8 a ha).1 (BookAt.stays _ _ _ _ g13 hb)) (book_upd ⟨_, hb3⟩ npb ⟨ts, hpl, hpt⟩)
      · show _ = some (HO.lst _)
        rw [upd_ne d2]
        exact g13 _ _ ho1
      · intro a ha
        rcases List.mem_append.mp ha with ha | ha
        · exact d8 a ha
        · rw [List.mem_singleton.mp ha]
          exact ⟨npb, npe⟩
      · intro a ha
        rcases List.mem_append.mp ha with ha | ha
        · exact m6 a ha
        · rw [List.mem_singleton.mp ha]
          exact fun z => by rw [z, hG] at hp0; cases hp0
    have F4 : ∀ b o, H b = some o → b ≠ ba → upd H3 ba (.lst (as.map V.ref ++ [.ref p])) b = some o := fun b o e nb => by
      rw [upd_ne nb]
      exact g13 _ _ e
    have hr4 : upd H3 ba (.lst (as.map V.ref ++ [.ref p])) r = some (.ins C dx (roomF ba ea oa)) := by rw [upd_ne nr]; exact hr3
    have fr4 : ∀ q, upd H3 ba (.lst (as.map V.ref ++ [.ref p])) q = none → H q = none := fun q hq => by
      cases e : H q with
      | none => rfl
      | some o =>
        by_cases c : q = ba
        · rw [c, upd_same] at hq
          cases hq
        · rw [F4 q o e c] at hq
          cases hq
    generalize upd H3 ba (.lst (as.map V.ref ++ [.ref p])) = H4 at hb4 R4 F4 hr4 fr4
    refine ⟨_, rfl, r, C, dx, _, _, rfl, hr4, T.cl, T.nB, lkB .., ba, _, rfl, .inl (.inl (.inl hb4)), _, _, rfl, rfl, (by show 1 ≤ sizeLine; decide), fun q hq => ?_⟩
    refine k _ q ba ea (fun b o e _ nb _ => same_new hq _ _ (F4 b o e nb)) ?_ (.inl rfl) (.inl rfl) (fr4 q hq) ?_
    · show RoomAt C G _ r ba ea (Vbceah.step s [[0], ns]).1
      rw [en]
      exact R4.stays (same_new hq)
    · show _ = some (HO.lst (iv (Vbceah.step s [[0], ns]).2))
      rw [en, upd_same]
      show some (HO.lst [V.int ((((as ++ [p]).map V.ref).length : Int) - 1)]) = some (HO.lst [V.int (s.books.length : Int)])
      have e : ((((as ++ [p]).map V.ref).length : Int) - 1) = (s.books.length : Int) := by
        rw [List.map_append, List.length_append, lenB]
        show (((s.books.length + 1 : Nat)) : Int) - 1 = _
        omega
      rw [e]
end
end Rm

set_option Elab.async false
set_option linter.all false
set_option maxRecDepth 100000
set_option maxHeartbeats 4000000
/-! empty and order. -/
namespace Rm
open PySem PySem.Spec PyProof.Rows L2
section
variable {P : Program} {w : World} {K : PySem.W.Frag} {mg : Str → Option Value} {base : Heap} {C : Addr}
def spStretch : Sp := fun vs H Q _ => ∃ (na : Addr) (ns : List Int), vs = [.ref na] ∧ H na = some (.lst (iv ns)) ∧ ns.length ≤ 1000 ∧ ∀ H', Same H H' → Q (.bl (Vbceah.breaksTold ns).isSome) H'
abbrev sStretch : Stmt := topS 38
abbrev nStretch : List Str := ["numbers", "end_before", "start", "end"]
theorem scStretch : FnScope nStretch ["numbers"] (C8.fnScope sStretch) := C8.fnScope_by (by decide +kernel)
theorem cal_stretch (h : Has K mg "are_stretches" ["numbers"] sStretch) (O : Own mg) (Wi : C8.Cal P w K mg base 1 "all_within" spWithin []) (Tw : C8.Cal P w K mg base 1 "by_twos" spTwos []) : C8.Cal P w K mg base 2 "are_stretches" spStretch [] := by
  obtain ⟨f, fd, D, b⟩ := h
  refine C8.cal0 D b .nil scStretch (fun vs H Q E h => ?_) fun cdv A' outer s H vs Q E hr h => ⟨_,
    pss_cons (ps_if (PW.pt (pw_or (pt_cmpR op_gt (pe_callB call_len_seq (by rfl) O.len PySem.boot_len (pa_cons (pv 0) pa_nil)) pe_int (nomark _)) (pw_or (pt_cmpR op_eq (pe_op op_mod (pe_callB call_len_seq (by rfl) O.len PySem.boot_len (pa_cons (pv 0) pa_nil)) pe_int) pe_int (nomark _))
      (pw_or1 (pt_not (pt_val (C8.pe_c Wi hr (by decide) (by rfl) (pa_cons (pv 0) (pa_cons pe_int (pa_cons pe_int pa_nil))))))))))
      (pss_one (ps_ret pe_bl)) pss_nil)
    (pss_cons (ps_set (i := 1) scStretch.nd rfl (.inl rfl) pe_int)
    (pss_cons (ps_for PassesOwn.never rfl (pi_list (C8.pe_c Tw hr (by decide) (by rfl) (pa_cons (pv 0) pa_nil))) (pg_tup rfl (pgs_cons (pg_name (i := 2) scStretch.nd rfl (.inl rfl)) (pgs_cons (pg_name (i := 3) scStretch.nd rfl (.inl rfl)) pgs_nil)))
      (pss_cons (ps_if (PW.pt (pw_or (pt_cmpR op_lt (pv 2) (pv 1) (nomark _)) (pw_or1 (pt_cmpR op_le (pv 3) (pv 2) (nomark _))))) (pss_one (ps_ret pe_bl)) pss_nil)
      (pss_one (ps_set (i := 1) scStretch.nd rfl (.inl rfl) (pv 3)))))
    (pss_one (ps_ret pe_bl)))), ?_⟩
  · obtain ⟨na, ns, rfl, _⟩ := h
    rfl
  obtain ⟨na, ns, rfl, hN, hz, k⟩ := h
  have lenN : SqL K H na (iv ns) := .inl (.inl hN)
  have bad : ∀ H1, Same H H1 → Vbceah.breaksTold ns = none → Q (.bl false) H1 := fun H1 g1 e => by
    have q := k H1 g1
    rw [e] at q
    exact q
  refine ⟨_, rfl, na, _, rfl, .inl lenN, _, _, rfl, rfl, _, rfl, ifB (fun c1 => ?_) fun c1 => ?_⟩
  · have c1' : 8 < ns.length := by
      have e := of_decide_eq_true c1
      rw [iv_len] at e
      omega
    exact iteT (bad H (Same.refl H) (breaks_bad (.inl c1')))
  have c1' : ns.length ≤ 8 := by
    have e := of_decide_eq_false c1
    rw [iv_len] at e
    omega
  refine ⟨_, rfl, na, _, rfl, .inl lenN, _, _, rfl, rfl, (by show (0 : Int) < 2; decide), rfl, _, rfl, ifB (fun c3 => ?_) fun c3 => ?_⟩
  · have c3' : ns.length % 2 = 1 := by
      have e := V.int.inj (of_decide_eq_true c3)
      rw [iv_len] at e
      omega
    exact iteT (bad H (Same.refl H) (breaks_bad (.inr (.inl c3'))))
  have c3' : ns.length % 2 = 0 := by
    have e : ¬ (((iv ns).length : Int) % 2 = 1) := fun z => of_decide_eq_false c3 (congrArg V.int z)
    rw [iv_len] at e
    omega
  refine ⟨_, rfl, na, ns, 0, 100000, rfl, hN, hz, fun H1 g1 => ⟨_, rfl, ?_⟩⟩
  cases c4 : (ns.all fun n => VbceCore.isBetween n 0 100000) with
  | false => exact iteT (bad H1 g1 (breaks_bad (.inr (.inr c4))))
  | true =>
    refine iteF ?_
    obtain ⟨rr, er, el, et⟩ := breaks_good c1' c3' c4
    refine ⟨_, rfl, na, rr, rfl, by rw [← er]; exact g1 _ _ hN, by omega, fun H2 p g2 hp hPr => ?_⟩
    obtain ⟨ts, hpl, hpt⟩ := hPr
    have g12 := g1.trans g2
    refine ⟨p, rfl, ⟨_, .inl (.inl hpl)⟩, for_list (K := K) (a := p) (xs := ts.map V.ref) (fun i σ H' => ∃ (e : Nat) (v1 v2 : Option V), σ = [some (.ref na), some (.int e), v1, v2] ∧ chk 0 rr = chk e (rr.drop i) ∧ Same H2 H') ⟨0, none, none, rfl, rfl, Same.refl _⟩ (fun i σ H' _ ⟨_, _, _, _, _, s5⟩ => .inl (.inl (s5 _ _ hpl))) ?_ ?_⟩
    · rintro i x σ H' hi ⟨e, v1, v2, rfl, hc, s5⟩
      obtain ⟨z, hz, rfl⟩ := map_get hi
      obtain ⟨y, hy, hyz⟩ := LstOf.at hpt hz
      have ed : rr.drop i = y :: rr.drop (i + 1) := by
        obtain ⟨h1, h2⟩ := List.getElem?_eq_some_iff.mp hy
        rw [List.drop_eq_getElem_cons h1, h2]
      have ec : chk 0 rr = (decide (e ≤ y.1 ∧ y.1 < y.2) && chk y.2 (rr.drop (i + 1))) := by rw [hc, ed]; rfl
      have no : ¬ (e ≤ y.1 ∧ y.1 < y.2) → Q (.bl false) H' := fun z => by
        refine bad H' (g12.trans s5) ?_
        rw [et, ec, decide_eq_false z]
        rfl
      refine ⟨z, _, rfl, .inl (.inl (s5 _ _ hyz)), rfl, _, _, rfl, _, _, rfl, rfl, ?_⟩
      refine ⟨_, rfl, _, rfl, _, _, rfl, rfl, _, rfl, ifB (fun c5 => ?_) fun c5 => ?_⟩
      · have c5' : (y.1 : Int) < e := by simpa using c5
        exact iteT (no fun z => by omega)
      have c5' : ¬ ((y.1 : Int) < e) := by simpa using c5
      refine ⟨_, rfl, _, rfl, _, _, rfl, rfl, _, rfl, ifB (fun c6 => ?_) fun c6 => ?_⟩
      · have c6' : (y.2 : Int) ≤ y.1 := by simpa using c6
        exact no fun z => by omega
      have c6' : ¬ ((y.2 : Int) ≤ y.1) := by simpa using c6
      refine ⟨_, rfl, y.2, _, _, rfl, ?_, s5⟩
      rw [ec, decide_eq_true ⟨by omega, by omega⟩, Bool.true_and]
    · rintro σ H' ⟨e, v1, v2, rfl, hc, s5⟩
      have elr : ts.length = rr.length := Paired.length hpt
      rw [List.length_map, elr, List.drop_length] at hc
      have q := k H' (g12.trans s5)
      rw [et, hc] at q
      exact q
abbrev gEmpty : Vbceah.State → List Int → Vbceah.State × List Int := fun s ns => match ns with
  | [] => (s, [])
  | d :: l => Vbceah.step s [[1, d], l]
abbrev preE : List Int → Prop := fun ns => ∃ d l, ns = d :: l ∧ l.length ≤ 30
abbrev sEmpty : Stmt := topS 39
abbrev nEmpty : List Str := ["room", "numbers", "desk", "stretches"]
theorem scEmpty : FnScope nEmpty ["room", "numbers"] (C8.fnScope sEmpty) := C8.fnScope_by (by decide +kernel)
theorem cal_empty (h : Has K mg "set_empty" ["room", "numbers"] sEmpty) (T : RoomTxt K C) (O : Own mg) (St' : C8.Cal P w K mg base 2 "are_stretches" spStretch []) (Tw : C8.Cal P w K mg base 1 "by_twos" spTwos []) :
    C8.Cal P w K mg base 3 "set_empty" (spAct C gEmpty preE) [] := by
  obtain ⟨f, fd, D, b⟩ := h
  refine C8.cal0 D b .nil scEmpty (fun vs H Q E h => ?_) fun cdv A' outer s H vs Q E hr h => ⟨_,
    pss_cons (ps_set (i := 2) scEmpty.nd rfl (.inl rfl) (pe_ix ix_list (pv 1) pe_int (fun _ _ => rfl)))
    (pss_cons (ps_if (PW.pt (pw_or (pt_not (pt_chain op_le op_le pe_int (pv 2) pe_int)) (pw_or1 (pt_not (pt_val (C8.pe_c St' hr (by decide) (by rfl) (pa_cons (pe_slice sl_list (pv 1) (po_some pe_int) po_none) pa_nil)))))))
      (pss_one (ps_ret (pe_lst (pa_cons (pe_un un_neg pe_int) pa_nil)))) pss_nil)
    (pss_cons (ps_set (i := 3) scEmpty.nd rfl (.inl rfl) (C8.pe_c Tw hr (by decide) (by rfl) (pa_cons (pe_slice sl_list (pv 1) (po_some pe_int) po_none) pa_nil)))
    (pss_cons (ps_asg (pv 3) (pg_sub (pe_fld (pv 0) rfl) (pe_op op_sub (pv 2) pe_int) set_list))
    (pss_one (ps_ret (pe_lst (pa_cons (pe_callB call_len_seq (by rfl) O.len PySem.boot_len (pa_cons (pv 3) pa_nil)) pa_nil))))))), ?_⟩
  · obtain ⟨G, r, na, ba, ea, s, ns, rfl, _⟩ := h
    rfl
  obtain ⟨G, r, na, ba, ea, s, ns, rfl, hR, hN, n1, n2, n3, ⟨oG, hG⟩, g, ⟨d, l, rfl, hl⟩, k⟩ := h
  have cutN : cutV (iv (d :: l)) (some 1) none = iv l := cut_from (xs := iv (d :: l)) (k := 1) (by rw [iv_len]; exact Nat.succ_le_succ (Nat.zero_le _))
  have bad : ∀ H1, Same H H1 → (VbceCore.isBetween d 1 2 && (Vbceah.breaksTold l).isSome) = false → ∀ q, H1 q = none → Q (.ref q) (upd H1 q (.lst [.int (-1)])) := fun H1 g1 c q hq => by
    have e := empty_bad (s := s) c
    refine k _ q ba ea (.of (same_upd g1 (g1.free hq))) ?_ (.inl rfl) (.inl rfl) (g1.free hq) ?_
    · show RoomAt C G _ r ba ea (Vbceah.step s [[1, d], l]).1
      rw [e]
      exact hR.stays (same_upd g1 (g1.free hq))
    · show _ = some (HO.lst (iv (Vbceah.step s [[1, d], l]).2))
      rw [e]
      exact upd_same
  have h0 : atI (iv (d :: l)) 0 = some (.int d) := atI_nat (xs := iv (d :: l)) (j := 0) rfl
  refine ⟨_, rfl, na, _, 0, _, rfl, rfl, .inl (.inl hN), h0, ?_⟩
  refine ⟨_, rfl, _, _, rfl, rfl, _, rfl, ifB' (fun c1 => ?_) fun c1 => ?_⟩
  · have c1' : ¬ (1 ≤ d) := by simpa using c1
    refine ⟨_, rfl, iteT (iteT ?_)⟩
    refine ⟨_, rfl, (by show 1 ≤ sizeLine; decide), fun q hq => bad H (Same.refl H) ?_ q hq⟩
    unfold VbceCore.isBetween
    rw [decide_eq_false c1', Bool.false_and, Bool.false_and]
  have c1' : 1 ≤ d := by simpa using c1
  refine ⟨_, _, rfl, rfl, _, rfl, ?_⟩
  by_cases c2' : ¬ d ≤ 2
  · rw [decide_eq_false c2']
    refine iteT (iteT ⟨_, rfl, (by show 1 ≤ sizeLine; decide), fun q hq => bad H (Same.refl H) ?_ q hq⟩)
    unfold VbceCore.isBetween
    rw [decide_eq_false c2', Bool.and_false, Bool.false_and]
  have c2 : d ≤ 2 := by omega
  rw [decide_eq_true c2]
  refine iteF ?_
  have hd : VbceCore.isBetween d 1 2 = true := between_iff.mpr ⟨c1', c2⟩
  refine ⟨_, rfl, _, rfl, na, _, rfl, .inl (.inl hN), fun p1 hp1 => ?_⟩
  have s1 := same_new (o := .lst (cutV (iv (d :: l)) (some 1) none)) hp1
  have hl1 : upd H p1 (.lst (cutV (iv (d :: l)) (some 1) none)) p1 = some (.lst (iv l)) := by rw [upd_same, cutN]
  generalize upd H p1 (.lst (cutV (iv (d :: l)) (some 1) none)) = H1 at s1 hl1
  refine ⟨p1, l, rfl, hl1, by omega, fun H2 g2 => ⟨_, rfl, ?_⟩⟩
  have s2 := s1.trans g2
  cases c3 : Vbceah.breaksTold l with
  | none =>
    refine iteT ⟨_, rfl, (by show 1 ≤ sizeLine; decide), fun q hq => bad H2 s2 ?_ q hq⟩
    rw [c3, Bool.and_eq_false_iff]
    exact .inr rfl
  | some e =>
    refine iteF ?_
    obtain ⟨el, ell⟩ := breaks_told c3
    have en := empty_new (s := s) hd c3
    refine ⟨_, rfl, _, rfl, na, _, rfl, .inl (.inl (s2 _ _ hN)), fun p2 hp2 => ?_⟩
    have s3 := same_upd (o := .lst (cutV (iv (d :: l)) (some 1) none)) s2 (s2.free hp2)
    have hl2 : upd H2 p2 (.lst (cutV (iv (d :: l)) (some 1) none)) p2 = some (.lst (iv l)) := by rw [upd_same, cutN]
    generalize upd H2 p2 (.lst (cutV (iv (d :: l)) (some 1) none)) = H3 at s3 hl2
    refine ⟨p2, e, rfl, by rw [← el]; exact hl2, by omega, fun H4 p g4 hp hB => ?_⟩
    have s4 := s3.trans g4
    have hp0 := s3.free hp
    obtain ⟨dx, oa, p1', q1, as, hr1, hb1, hbp, he1, he2, he3, ho1, d1, d2, d3, d4, d5, d6, d7, d8, m1, m2, m3, m4, m5, m6⟩ := hR
    have npb : p ≠ ba := fun z => by rw [z, hb1] at hp0; cases hp0
    have npe : p ≠ ea := fun z => by rw [z, he1] at hp0; cases hp0
    have npG : p ≠ G := fun z => by rw [z, hG] at hp0; cases hp0
    have he4 := s4 _ _ he1
    have hr4 := s4 _ _ hr1
    have nr : r ≠ ea := ne_of hr4 he4 (fun z => nomatch z)
    have kb := fun (a : Addr) (b : Vbceah.Book) (h : a ≠ ea) (hb : BookAt H a b) (o : HO) => book_upd (o := o) ⟨_, he4⟩ h (BookAt.stays _ _ _ _ s4 hb)
    have kx := fun (a : Addr) (b : Vbceah.Breaks) (h : a ≠ ea) (hb : BreaksAt H a b) (o : HO) => breaks_upd (o := o) ⟨_, he4⟩ h (BreaksAt.stays _ _ _ _ s4 hb)
    have kp : ∀ o, BreaksAt (upd H4 ea o) p e := fun o => breaks_upd ⟨_, he4⟩ npe hB
    -- what follows the store
    have fin : ∀ (j : Nat) (s' : Vbceah.State), (Vbceah.step s [[1, d], l]).1 = s' → RoomAt C G (upd H4 ea (.lst ([V.ref p1', .ref q1].set j (.ref p)))) r ba ea s' →
        (tRet (tLst (tCons (tCB (fun xs H Q => ∃ p ys, xs = [V.ref p] ∧ (SqL K H p ys ∨ SqT K H p ys) ∧ Q (V.int ys.length) H) (tCons (tVar 3) tNil)) tNil)) : TS) { nx := fun _ H' => Q .non H', rt := Q } ([some (.ref r), some (.ref na), some (.int d), some (.ref p)] : L2.St) (upd H4 ea (.lst ([V.ref p1', .ref q1].set j (.ref p)))) := fun j s' es hs' => by
      obtain ⟨ts, ht1, ht2⟩ := kp (.lst ([V.ref p1', .ref q1].set j (.ref p)))
      have lt : (ts.map V.ref).length = e.length := by rw [List.length_map]; exact Paired.length ht2
      have fr : ∀ b o, H b = some o → b ≠ ea → upd H4 ea (.lst ([V.ref p1', .ref q1].set j (.ref p))) b = some o := fun b o e' ne => by
        rw [upd_ne ne]
        exact s4 _ _ e'
      have frn : ∀ q, upd H4 ea (.lst ([V.ref p1', .ref q1].set j (.ref p))) q = none → H q = none := fun q hq => by
        cases e' : H q with
        | none => rfl
        | some o =>
          by_cases c : q = ea
          · rw [c, upd_same] at hq
            cases hq
          · rw [fr q o e' c] at hq
            cases hq
      refine ⟨_, rfl, p, _, rfl, .inl (.inl (.inl ht1)), (by show 1 ≤ sizeLine; decide), fun q hq => ?_⟩
      refine k _ q ba ea (fun b o e' _ _ ne => same_new hq _ _ (fr b o e' ne)) ?_ (.inl rfl) (.inl rfl) (frn q hq) ?_
      · show RoomAt C G _ r ba ea (Vbceah.step s [[1, d], l]).1
        rw [es]
        exact hs'.stays (same_new hq)
      · show _ = some (HO.lst (iv (Vbceah.step s [[1, d], l]).2))
        rw [en, upd_same, lt]
        rfl
    refine ⟨_, rfl, _, rfl, r, C, dx, _, _, rfl, hr4, T.cl, T.nE, lkE .., _, rfl, _, _, rfl, rfl, ?_⟩
    have dcase : d = 1 ∨ d = 2 := by omega
    rcases dcase with rfl | rfl
    · refine ⟨ea, _, 0, 0, rfl, rfl, he4, rfl, ?_⟩
      refine fin 0 { s with empty1 := e } (by rw [en]; rfl) ⟨dx, oa, p, q1, as, by rw [upd_ne nr]; exact hr4, by rw [upd_ne d1]; exact s4 _ _ hb1, pmem hbp fun a b ha hb => kb a b (d8 a ha).2 hb _, upd_same, kp _, kx _ _ d7 he3 _, ?_, d1, d2, d3, npb, npe, d6, d7, d8, m1, m2, m3, npG, m5, m6⟩
      show _ = some (HO.lst _)
      rw [upd_ne d3]
      exact s4 _ _ ho1
    · refine ⟨ea, _, 1, 1, rfl, rfl, he4, rfl, ?_⟩
      refine fin 1 { s with empty2 := e } (by rw [en]; rfl) ⟨dx, oa, p1', p, as, by rw [upd_ne nr]; exact hr4, by rw [upd_ne d1]; exact s4 _ _ hb1, pmem hbp fun a b ha hb => kb a b (d8 a ha).2 hb _, upd_same, kx _ _ d5 he2 _, kp _, ?_, d1, d2, d3, d4, d5, npb, npe, d8, m1, m2, m3, m4, npG, m6⟩
      show _ = some (HO.lst _)
      rw [upd_ne d3]
      exact s4 _ _ ho1
end
end Rm

set_option Elab.async false
set_option linter.all false
set_option maxRecDepth 100000
set_option maxHeartbeats 4000000
/-! order. -/
namespace Rm
open PySem PySem.Spec PyProof.Rows L2
/-- a for over enumerate(list) -/
theorem for_enum {K : PySem.W.Frag} {a : Addr} {xs : List V} {g : TG} {tb : TS} {D : Ends} {σ : L2.St} {H : Hp} (Pv : Nat → L2.St → Hp → Prop) (h0 : Pv 0 σ H)
    (hl : ∀ i σ H, i ≤ xs.length → Pv i σ H → SqL K H a xs)
    (hs : ∀ (i : Nat) x T σ H, xs[i]? = some x → H T = none → Pv i σ H → g (.ref T) σ (upd H T (.tup [.int (i : Nat), x])) fun σ2 H2 => tb { D with nx := Pv (i + 1), ct := Pv (i + 1), bk := D.nx } σ2 H2)
    (hd : ∀ σ H, Pv xs.length σ H → D.nx σ H) :
    ∃ W : Nat → Nat → L2.St → Hp → Prop, (∃ m, W 0 m σ H) ∧ ∀ i m σ H, W i m σ H →
      ((Ite K a).stop i H ∧ D.nx σ H) ∨ ((Ite K a).go i H ∧ ∃ N : L2.St → Hp → Prop, (∀ σ' H', N σ' H' → ∃ m', m' < m ∧ W (i + 1) m' σ' H') ∧ ∀ x H', (Ite K a).yld i H x H' → g x σ H' fun σ2 H2 => tb { D with nx := N, ct := N, bk := D.nx } σ2 H2) := by
  refine ⟨fun i m σ H => m = xs.length - i ∧ i ≤ xs.length ∧ Pv i σ H, ⟨xs.length, by omega, Nat.zero_le _, h0⟩, ?_⟩
  rintro i m σ H ⟨rfl, hi, p⟩
  have q := hl i σ H hi p
  by_cases hlt : i < xs.length
  · refine .inr ⟨⟨xs, xs[i], q, List.getElem?_eq_getElem hlt⟩, Pv (i + 1), fun σ' H' p' => ⟨xs.length - (i + 1), by omega, rfl, hlt, p'⟩, fun x H' y => ?_⟩
    obtain ⟨T, x, rfl, hT, rfl, hx⟩ := y
    exact hs i x T σ H (hx xs q) hT p
  · have e : i = xs.length := by omega
    subst e
    exact .inl ⟨⟨xs, q, Nat.le_refl _⟩, hd σ H p⟩
section
variable {P : Program} {w : World} {K : PySem.W.Frag} {mg : Str → Option Value} {base : Heap} {C : Addr}
abbrev gOrder : Vbceah.State → List Int → Vbceah.State × List Int := fun s ns => Vbceah.step s [[2], ns]
abbrev sOrder : Stmt := topS 40
abbrev nOrder : List Str := ["room", "numbers", "book", "sheets"]
theorem scOrder : FnScope nOrder ["room", "numbers"] (C8.fnScope sOrder) := C8.fnScope_by (by decide +kernel)
theorem cal_order (h : Has K mg "set_order" ["room", "numbers"] sOrder) (T : RoomTxt K C) (O : Own mg) (Wi : C8.Cal P w K mg base 1 "all_within" spWithin []) (Wh : C8.Cal P w K mg base 2 "whole_flag" (spWhole C) []) :
    C8.Cal P w K mg base 3 "set_order" (spAct C gOrder preL) [] := by
  obtain ⟨f, fd, D, b⟩ := h
  refine C8.cal0 D b .nil scOrder (fun vs H Q E h => ?_) fun cdv A' outer s H vs Q E hr h => ⟨_,
    pss_cons (ps_if (PW.pt (pw_or (pt_cmpR op_gt (pe_callB call_len_seq (by rfl) O.len PySem.boot_len (pa_cons (pv 1) pa_nil)) pe_int (nomark _)) (pw_or1 (pt_not (pt_val (C8.pe_c Wi hr (by decide) (by rfl) (pa_cons (pv 1) (pa_cons pe_int (pa_cons (pe_op op_sub (pe_callB call_len_seq (by rfl) O.len PySem.boot_len (pa_cons (pe_fld (pv 0) rfl) pa_nil)) pe_int) pa_nil)))))))))
      (pss_one (ps_ret (pe_lst (pa_cons (pe_un un_neg pe_int) pa_nil)))) pss_nil)
    (pss_cons (ps_for PassesOwn.never rfl (pi_enum (by rfl) O.enumerate (pa_cons (pe_fld (pv 0) rfl) pa_nil)) (pg_tup rfl (pgs_cons (pg_name (i := 2) scOrder.nd rfl (.inl rfl)) (pgs_cons (pg_name (i := 3) scOrder.nd rfl (.inl rfl)) pgs_nil)))
      (pss_one (ps_if (pt_cmpR op_gt (pe_bm PySem.F.plainAttrs_list PySem.F.slot_list_count PySem.F.type_list_count mt_lcount (pv 1) (pa_cons (pv 2) pa_nil)) (pe_callB call_len_seq (by rfl) O.len PySem.boot_len (pa_cons (pv 3) pa_nil)) (nomark _))
        (pss_one (ps_ret (pe_lst (pa_cons (pe_un un_neg pe_int) pa_nil)))) pss_nil)))
    (pss_cons (ps_fld (pv 0) (pv 1) rfl)
    (pss_one (ps_ret (pe_lst (pa_cons (C8.pe_c Wh hr (by decide) (by rfl) (pa_cons (pv 0) pa_nil)) pa_nil)))))), ?_⟩
  · obtain ⟨G, r, na, ba, ea, s, ns, rfl, _⟩ := h
    rfl
  obtain ⟨G, r, na, ba, ea, s, ns, rfl, hR, hN, n1, n2, n3, ⟨oG, hG⟩, g, hpre, k⟩ := h
  have hpre' : ns.length ≤ 30 := hpre
  have ref : ∀ H1 (m : Int), Same H H1 → Vbceah.step s [[2], ns] = (s, [m]) → ∀ q, H1 q = none → Q (.ref q) (upd H1 q (.lst [.int m])) := fun H1 m g1 e q hq => by
    refine k _ q ba ea (.of (same_upd g1 (g1.free hq))) ?_ (.inl rfl) (.inl rfl) (g1.free hq) ?_
    · show RoomAt C G _ r ba ea (Vbceah.step s [[2], ns]).1
      rw [e]
      exact hR.stays (same_upd g1 (g1.free hq))
    · show _ = some (HO.lst (iv (Vbceah.step s [[2], ns]).2))
      rw [e]
      exact upd_same
  refine ⟨_, rfl, na, _, rfl, .inl (.inl (.inl hN)), _, _, rfl, rfl, _, rfl, ifB (fun c1 => ?_) fun c1 => ?_⟩
  · have c1' : 12 < ns.length := by
      have e := of_decide_eq_true c1
      rw [iv_len] at e
      omega
    exact iteT ⟨_, rfl, (by show 1 ≤ sizeLine; decide), fun q hq => ref H (-1) (Same.refl H) (order_bad (.inl c1')) q hq⟩
  have c1' : ns.length ≤ 12 := by
    have e := of_decide_eq_false c1
    rw [iv_len] at e
    omega
  obtain ⟨dx, oa, p1, q1, as, hr1, hb1, hbp, he1, he2, he3, ho1, d1, d2, d3, d4, d5, d6, d7, d8, m1, m2, m3, m4, m5, m6⟩ := hR
  have hR : RoomAt C G H r ba ea s := ⟨dx, oa, p1, q1, as, hr1, hb1, hbp, he1, he2, he3, ho1, d1, d2, d3, d4, d5, d6, d7, d8, m1, m2, m3, m4, m5, m6⟩
  have lenB : (as.map V.ref).length = s.books.length := by rw [List.length_map]; exact Paired.length hbp
  refine ⟨_, rfl, _, rfl, r, C, dx, _, _, rfl, hr1, T.cl, T.nB, lkB .., ba, _, rfl, .inl (.inl (.inl hb1)), _, _, rfl, rfl, ?_⟩
  rw [lenB]
  refine ⟨na, ns, 0, (s.books.length : Int) - 1, rfl, hN, by omega, fun H1 g1 => ⟨_, rfl, ?_⟩⟩
  cases c4 : (ns.all fun n => VbceCore.isBetween n 0 ((s.books.length : Int) - 1)) with
  | false => exact iteT ⟨_, rfl, (by show 1 ≤ sizeLine; decide), fun q hq => ref H1 (-1) g1 (order_bad (.inr c4)) q hq⟩
  | true =>
    refine iteF ?_
    have nn := order_nn (s := s) c4
    refine ⟨_, rfl, r, C, dx, _, _, rfl, g1 _ _ hr1, T.cl, T.nB, lkB .., ba, _, rfl, .inl (.inl (g1 _ _ hb1)), for_enum (K := K) (a := ba) (xs := as.map V.ref) (fun i σ H' => ∃ v1 v2 : Option V, σ = [some (.ref r), some (.ref na), v1, v2] ∧ (∀ b, b < i → ns.count (b : Int) ≤ (Vbceah.bookAt s.books b).length) ∧ Same H H')
      ⟨none, none, rfl, fun b hb => by omega, g1⟩ (fun i σ H' _ ⟨_, _, _, _, s5⟩ => .inl (.inl (s5 _ _ hb1))) ?_ ?_⟩
    · rintro i x Tp σ H' hi hTp ⟨v1, v2, rfl, hc, s5⟩
      obtain ⟨z, hz, rfl⟩ := map_get hi
      obtain ⟨bk, hbk, ⟨ss, hs1, hs2⟩⟩ := LstOf.at hbp hz
      have hlt : i < s.books.length := (List.getElem?_eq_some_iff.mp hbk).1
      have eb : Vbceah.bookAt s.books i = bk := by
        have := book_at hlt
        rw [hbk] at this
        exact (Option.some.inj this).symm
      have s6 := same_upd (o := .tup [.int (i : Nat), .ref z]) s5 (s5.free hTp)
      have hT6 : upd H' Tp (.tup [.int (i : Nat), .ref z]) Tp = some (.tup [.int (i : Nat), .ref z]) := upd_same
      generalize upd H' Tp (.tup [.int (i : Nat), .ref z]) = H2 at s6 hT6
      refine ⟨Tp, _, rfl, .inl (.inl hT6), rfl, _, _, rfl, _, _, rfl, rfl, ?_⟩
      have lt : (ss.map V.ref).length = bk.length := by rw [List.length_map]; exact Paired.length hs2
      refine ⟨_, rfl, .inl ⟨rfl, _, .inl (.inl (s6 _ _ hN))⟩, _, rfl, na, ns, (i : Int), rfl, rfl, .inl (.inl (s6 _ _ hN)), _, rfl, z, _, rfl, .inl (.inl (.inl (s6 _ _ hs1))), _, _, rfl, rfl, _, rfl, ?_⟩
      rw [lt]
      refine ifB (fun c5 => ?_) fun c5 => ?_
      · have c5' : bk.length < ns.count (i : Int) := by
          have e := of_decide_eq_true c5
          omega
        exact ⟨_, rfl, (by show 1 ≤ sizeLine; decide), fun q hq => ref H2 (-4) s6 (order_four c1' c4 hlt (by rw [eb]; exact c5')) q hq⟩
      have c5' : ns.count (i : Int) ≤ bk.length := by
        have e := of_decide_eq_false c5
        omega
      refine ⟨_, _, rfl, fun b hb => ?_, s6⟩
      by_cases cb : b = i
      · rw [cb, eb]
        exact c5'
      · exact hc b (by omega)
    · rintro σ H' ⟨v1, v2, rfl, hc, s5⟩
      rw [lenB] at hc
      have en := order_new (s := s) c1' c4 hc
      have hr5 := s5 _ _ hr1
      have nrb : r ≠ ba := ne_of hr1 hb1 (fun z => nomatch z)
      have nre : r ≠ ea := ne_of hr1 he1 (fun z => nomatch z)
      have nrn : r ≠ na := ne_of hr1 hN (fun z => nomatch z)
      refine ⟨_, rfl, _, rfl, r, C, dx, _, rfl, hr5, T.cl, T.nO, (by show 3 < 1000; decide), ?_⟩
      rw [pfO]
      have off : ∀ b o, H b = some o → b ≠ r → upd H' r (.ins C dx (roomF ba ea na)) b = some o := fun b o e ne => by
        rw [upd_ne ne]
        exact s5 _ _ e
      have offl : ∀ b xs, H b = some (.lst xs) → upd H' r (.ins C dx (roomF ba ea na)) b = some (.lst xs) := fun b xs e => off b _ e (ne_of e hr1 (fun z => nomatch z))
      have offt : ∀ b xs, H b = some (.tup xs) → upd H' r (.ins C dx (roomF ba ea na)) b = some (.tup xs) := fun b xs e => off b _ e (ne_of e hr1 (fun z => nomatch z))
      have hBk : ∀ a b, BookAt H a b → BookAt (upd H' r (.ins C dx (roomF ba ea na))) a b := fun a b ⟨ts, h1, h2⟩ => ⟨ts, offl _ _ h1, Paired.mapP h2 fun q x hq => offt _ _ hq⟩
      have hBr : ∀ a b, BreaksAt H a b → BreaksAt (upd H' r (.ins C dx (roomF ba ea na))) a b := fun a b ⟨ts, h1, h2⟩ => ⟨ts, offl _ _ h1, Paired.mapP h2 fun q x hq => offt _ _ hq⟩
      have eo : iv ns = nats (ns.map Int.toNat) := by
        unfold iv nats
        rw [List.map_map]
        refine List.map_congr_left fun n hn => ?_
        show V.int n = V.int ((n.toNat : Nat) : Int)
        rw [Int.toNat_of_nonneg (nn n hn).1]
      have R6 : RoomAt C G (upd H' r (.ins C dx (roomF ba ea na))) r ba ea { s with order := ns.map Int.toNat } :=
        ⟨dx, na, p1, q1, as, upd_same, offl _ _ hb1, Paired.mapP hbp fun _ _ h => hBk _ _ h, offl _ _ he1, hBr _ _ he2, hBr _ _ he3, by show _ = some (HO.lst (nats _)); rw [← eo]; exact offl _ _ hN, d1, n1, n2, d4, d5, d6, d7, d8, m1, m2, n3, m4, m5, m6⟩
      have fr : ∀ q, upd H' r (.ins C dx (roomF ba ea na)) q = none → H q = none := fun q hq => by
        cases e : H q with
        | none => rfl
        | some o =>
          by_cases c : q = r
          · rw [c, upd_same] at hq
            cases hq
          · rw [off q o e c] at hq
            cases hq
      generalize upd H' r (.ins C dx (roomF ba ea na)) = H6 at off R6 fr
      have g6 : Good { s with order := ns.map Int.toNat } := by
        have := good_step g [[2], ns]
        rw [en] at this
        exact this
      refine ⟨_, rfl, G, r, ba, ea, _, rfl, R6, g6, fun H7 g7 => ⟨(by show 1 ≤ sizeLine; decide), fun q hq => ?_⟩⟩
      refine k _ q ba ea (fun b o e ne _ _ => same_new hq _ _ (g7 _ _ (off b o e ne))) ?_ (.inl rfl) (.inl rfl) (fr q (g7.free hq)) ?_
      · show RoomAt C G _ r ba ea (Vbceah.step s [[2], ns]).1
        rw [en]
        exact R6.stays (same_upd g7 (g7.free hq))
      · show _ = some (HO.lst (iv (Vbceah.step s [[2], ns]).2))
        rw [en, upd_same]
        rfl
end
end Rm

set_option Elab.async false
set_option linter.all false
set_option maxRecDepth 100000
set_option maxHeartbeats 4000000
/-! What the calls of the second stage promise. -/
namespace Rm
open PySem PySem.Spec PyProof.Rows L2
/-- a call with one number; with one number and a list; with a list -/
abbrev gOne (n : Int) : Vbceah.State → List Int → Vbceah.State × List Int := fun s ns => match ns with
  | [d] => Vbceah.step s [[n, d]]
  | _ => (s, [])
abbrev preO : List Int → Prop := fun ns => ∃ d, ns = [d]
abbrev gOneL (n : Int) : Vbceah.State → List Int → Vbceah.State × List Int := fun s ns => match ns with
  | d :: l => Vbceah.step s [[n, d], l]
  | _ => (s, [])
abbrev gList (n : Int) : Vbceah.State → List Int → Vbceah.State × List Int := fun s ns => Vbceah.step s [[n], ns]
/-- what changes nothing -/
theorem tells_block {s : Vbceah.State} {ns : List Int} : (gOne 12 s ns).1 = s := by
  unfold gOne
  split
  · rename_i d
    by_cases h : ∃ i : Nat, d = i ∧ i < s.books.length
    · obtain ⟨i, rfl, hi⟩ := h
      rw [step_block hi]
    · rw [step_block_no h]
  · rfl
theorem tells_swap {s : Vbceah.State} {ns : List Int} : (gOne 17 s ns).1 = s := by
  unfold gOne
  split
  · rename_i d
    by_cases h : ∃ k : Nat, d = k ∧ k + 1 < s.order.length
    · obtain ⟨i, rfl, hi⟩ := h
      rw [step_swap hi]
    · rw [step_swap_no h]
  · rfl
theorem ite_fst {α β : Type} {c : Prop} [Decidable c] {x y : α × β} {a : α} (h1 : x.1 = a) (h2 : y.1 = a) : (if c then x else y).1 = a := by
  split
  · exact h1
  · exact h2
theorem full_fst {s : Vbceah.State} {f : Vbceah.State × Vbceah.Answer} (h : f.1 = s) : (Vbceah.onFull s f).1 = s := by
  unfold Vbceah.onFull
  exact ite_fst h rfl
theorem tells_judge {s : Vbceah.State} {ns : List Int} : (gOneL 14 s ns).1 = s := by
  unfold gOneL
  split
  · rename_i d l
    show (if Vbceah.inRange s (.judge d l) = false then (s, [-1]) else Vbceah.act s (.judge d l)).1 = s
    exact ite_fst rfl rfl
  · rfl
theorem tells_more {s : Vbceah.State} {ns : List Int} : (gOneL 15 s ns).1 = s := by
  unfold gOneL
  split
  · rename_i d l
    show (if Vbceah.inRange s (.more d l) = false then (s, [-1]) else Vbceah.act s (.more d l)).1 = s
    exact ite_fst rfl rfl
  · rfl
theorem tells_blocks {s : Vbceah.State} {ns : List Int} : (gList 16 s ns).1 = s := by
  show (if Vbceah.inRange s (.blocks ns) = false then (s, [-1]) else Vbceah.act s (.blocks ns)).1 = s
  exact ite_fst rfl (full_fst rfl)
theorem tells_rule {s : Vbceah.State} : (Vbceah.step s [[11]]).1 = s := by
  rw [step_rule]
  exact full_fst rfl
theorem tells_critical {s : Vbceah.State} : (Vbceah.step s [[13]]).1 = s := by
  rw [step_critical]
  refine full_fst ?_
  split <;> rfl
theorem tells_next {s : Vbceah.State} : (Vbceah.step s [[10]]).1 = s := rfl
theorem tells_books {s : Vbceah.State} : (Vbceah.step s [[18]]).1 = s := rfl
/-- a room as it was before the first call -/
theorem room_start {C G : Addr} {H : Hp} {r dx l1 l2 l3 l4 l5 : Addr} (hr : H r = some (.ins C dx (roomF l1 l4 l5))) (h1 : H l1 = some (.lst [])) (h2 : H l2 = some (.lst [])) (h3 : H l3 = some (.lst [])) (h4 : H l4 = some (.lst [.ref l2, .ref l3])) (h5 : H l5 = some (.lst []))
    (d51 : l5 ≠ l1) (d21 : l2 ≠ l1) (d31 : l3 ≠ l1) (g1 : G ≠ l1) (g2 : G ≠ l2) (g3 : G ≠ l3) (g4 : G ≠ l4) (g5 : G ≠ l5) : RoomAt C G H r l1 l4 Vbceah.start := by
  have ne4 : ∀ x, H x = some (.lst []) → x ≠ l4 := fun x hx z => by
    rw [z, h4] at hx
    cases hx
  refine ⟨dx, l5, l2, l3, [], hr, h1, .nil, h4, ⟨[], h2, .nil⟩, ⟨[], h3, .nil⟩, h5, ne4 l1 h1, d51, ne4 l5 h5, d21, ne4 l2 h2, d31, ne4 l3 h3, fun _ h => (nomatch h), g1, g4, fun z => g5 z.symm, fun z => g2 z.symm, fun z => g3 z.symm, fun _ h => (nomatch h)⟩
end Rm

set_option Elab.async false
set_option linter.all false
set_option maxRecDepth 100000
set_option maxHeartbeats 4000000
/-! A room is made; a list of calls is answered. -/
namespace Rm
open PySem PySem.Spec PyProof.Rows L2
theorem pe_mk0 {X : Cx} {k j : Nat} {C : Addr} {x : Str} {sp : Sp} {p pos : Pos} (c : C8.Mak X.prog X.w X.K X.mg X.base k x C sp []) (hr : Room j X.A) (hk : k + 1 ≤ j) (hg : Gl X x) (hdb : (x == ("__debug__" : Str)) = false := by decide) :
    PE X (.Call (.Name x p) [] [] pos) (tMake C sp [] C8.E0 tNil) := by
  obtain ⟨f, fd, ps, ds, M, F, hm, b, d⟩ := c.ex
  cases d
  exact pe_make0 M F (hr.mono hk) hg hm b .nil C8.pass0 hdb
theorem pfB (b : V) : putF "books" b [] = ([("books", b)] : List (Str × V)) := rfl
theorem pfE (a b : V) : putF "empties" b ([("books", a)] : List (Str × V)) = ([("books", a), ("empties", b)] : List (Str × V)) := (pF_miss (by decide +kernel)).trans rfl
theorem pfO2 (a b c : V) : putF "order" c ([("books", a), ("empties", b)] : List (Str × V)) = ([("books", a), ("empties", b), ("order", c)] : List (Str × V)) := (pF_miss (by decide +kernel)).trans (congrArg _ ((pF_miss (by decide +kernel)).trans rfl))
section
variable {P : Program} {w : World} {K : PySem.W.Frag} {mg : Str → Option Value} {base : Heap} {C : Addr}
theorem putF_len (f : Str) (v : V) : ∀ fs : List (Str × V), (putF f v fs).length ≤ fs.length + 1
  | [] => Nat.le_refl _
  | (g, x) :: r => by
    show (if g = f then (g, v) :: r else (g, x) :: putF f v r).length ≤ r.length + 1 + 1
    have := putF_len f v r
    split <;> simp only [List.length_cons] <;> omega
theorem three_flds {fs : List (Str × V)} (h : fs = [] ∨ ∃ ba ea oa, fs = roomF ba ea oa) (a b c : Addr) : putF "order" (.ref c) (putF "empties" (.ref b) (putF "books" (.ref a) fs)) = roomF a b c := by
  rcases h with rfl | ⟨ba, ea, oa, rfl⟩
  · rw [pfB, pfE, pfO2]
    rfl
  · have e1 : putF "books" (.ref a) (roomF ba ea oa) = roomF a ea oa := pF_hit
    have e2 : putF "empties" (.ref b) (roomF a ea oa) = roomF a b oa := (pF_miss (by decide +kernel)).trans (congrArg _ pF_hit)
    rw [e1, e2, pfO]
def spForget (C : Addr) : Sp := fun vs H Q _ => ∃ (p dx : Addr) (fs : List (Str × V)), vs = [.ref p] ∧ H p = some (.ins C dx fs) ∧ (fs = [] ∨ ∃ ba ea oa, fs = roomF ba ea oa) ∧
  ∀ (H' : Hp) (l1 l2 l3 l4 l5 : Addr), (∀ b o, H b = some o → b ≠ p → H' b = some o) → H' p = some (.ins C dx (roomF l1 l4 l5)) → H' l1 = some (.lst []) → H' l2 = some (.lst []) → H' l3 = some (.lst []) → H' l4 = some (.lst [.ref l2, .ref l3]) → H' l5 = some (.lst []) →
    l5 ≠ l1 → l2 ≠ l1 → l3 ≠ l1 → H l1 = none → H l2 = none → H l3 = none → H l4 = none → H l5 = none → Q .non H'
abbrev sForget : Stmt := inClass (topS 29) 1
theorem scForget : FnScope ["self"] ["self"] (C8.fnScope sForget) := C8.fnScope_by (by decide +kernel)
theorem met_forget {f : Addr} {fd : FuncData} (M : Meth K C "forget_all" f) (F : C8.Fun K "forget_all" "Room.forget_all" sForget f fd) (b : Binds K fd ["self"] []) (T : RoomTxt K C) : C8.Met P w K mg base 1 C "forget_all" (spForget C) [] := by
  refine C8.met0 T.cl M F b scForget (fun vs H Q E h => ?_) fun cdv A' outer s H vs Q E hr h => ⟨_,
    pss_cons (ps_fld (pv 0) (pe_lst pa_nil) rfl)
    (pss_cons (ps_fld (pv 0) (pe_lst (pa_cons (pe_lst pa_nil) (pa_cons (pe_lst pa_nil) pa_nil))) rfl)
    (pss_one (ps_fld (pv 0) (pe_lst pa_nil) rfl))), ?_⟩
  · obtain ⟨p, dx, fs, rfl, _⟩ := h
    rfl
  obtain ⟨p, dx, fs, rfl, hp, hfs, k⟩ := h
  have hfl : fs.length ≤ 3 := by
    rcases hfs with rfl | ⟨_, _, _, rfl⟩
    · exact Nat.zero_le _
    · exact Nat.le_refl _
  refine ⟨(by show 0 ≤ sizeLine; decide), fun l1 n1 => ?_⟩
  have np1 : p ≠ l1 := ne_of_none hp n1
  refine ⟨_, rfl, p, C, dx, _, rfl, same_new n1 _ _ hp, T.cl, T.nB, by omega, ?_⟩
  have tf := three_flds hfs l1
  have z1 := putF_len "books" (.ref l1) fs
  generalize putF "books" (V.ref l1) fs = f1 at tf z1
  have a1 : ∀ b o, H b = some o → b ≠ p → upd (upd H l1 (.lst [])) p (.ins C dx f1) b = some o := fun b o e ne => by
    rw [upd_ne ne]
    exact same_new n1 _ _ e
  have a2 : upd (upd H l1 (.lst [])) p (.ins C dx f1) p = some (.ins C dx f1) := upd_same
  have a3 : upd (upd H l1 (.lst [])) p (.ins C dx f1) l1 = some (.lst []) := by rw [upd_ne (fun z => np1 z.symm), upd_same]
  have a4 : ∀ q, upd (upd H l1 (.lst [])) p (.ins C dx f1) q = none → H q = none := fun q hq => by
    by_cases c : q = p
    · rw [c, upd_same] at hq; cases hq
    · rw [upd_ne c] at hq
      exact (same_new n1).free hq
  generalize upd (upd H l1 (.lst [])) p (.ins C dx f1) = H1 at a1 a2 a3 a4
  refine ⟨(by show 0 ≤ sizeLine; decide), fun l2 n2 => ⟨(by show 0 ≤ sizeLine; decide), fun l3 n3 => ⟨(by show 2 ≤ sizeLine; decide), fun l4 n4 => ?_⟩⟩⟩
  have s2 := same_new (o := .lst []) n2
  have n3' := s2.free n3
  have s3 := same_upd (o := .lst []) s2 n3'
  have n4' := s3.free n4
  have s4 := same_upd (o := .lst [.ref l2, .ref l3]) s3 n4'
  have hp4 := s4 _ _ a2
  have h2 : upd (upd (upd H1 l2 (.lst [])) l3 (.lst [])) l4 (.lst [.ref l2, .ref l3]) l2 = some (.lst []) := same_new n4 _ _ (same_new n3 _ _ upd_same)
  have h3 : upd (upd (upd H1 l2 (.lst [])) l3 (.lst [])) l4 (.lst [.ref l2, .ref l3]) l3 = some (.lst []) := same_new n4 _ _ upd_same
  have h4 : upd (upd (upd H1 l2 (.lst [])) l3 (.lst [])) l4 (.lst [.ref l2, .ref l3]) l4 = some (.lst [.ref l2, .ref l3]) := upd_same
  have d12 : l2 ≠ l1 := fun z => by rw [z, a3] at n2; cases n2
  have d13 : l3 ≠ l1 := fun z => by rw [z, a3] at n3'; cases n3'
  generalize upd (upd (upd H1 l2 (.lst [])) l3 (.lst [])) l4 (.lst [.ref l2, .ref l3]) = H2 at s4 hp4 h2 h3 h4
  refine ⟨_, rfl, p, C, dx, _, rfl, hp4, T.cl, T.nE, by omega, ?_⟩
  have tg := tf l4
  have z2 := putF_len "empties" (.ref l4) f1
  generalize putF "empties" (V.ref l4) f1 = f2 at tg z2
  refine ⟨(by show 0 ≤ sizeLine; decide), fun l5 n5 => ?_⟩
  have n5' : H2 l5 = none := by
    by_cases c : l5 = p
    · rw [c, upd_same] at n5; cases n5
    · rw [upd_ne c] at n5; exact n5
  have np5 : l5 ≠ p := fun z => by rw [z, upd_same] at n5; cases n5
  refine ⟨_, rfl, p, C, dx, _, rfl, same_new n5 _ _ upd_same, T.cl, T.nO, by omega, ?_⟩
  rw [tg l5]
  have l1p : l1 ≠ p := fun z => np1 z.symm
  have l2p : l2 ≠ p := fun z => by rw [z, a2] at n2; cases n2
  have l3p : l3 ≠ p := fun z => by rw [z, a2] at n3'; cases n3'
  have l4p : l4 ≠ p := fun z => by rw [z, a2] at n4'; cases n4'
  have fin : ∀ b o, H2 b = some o → b ≠ p → upd (upd (upd H2 p (.ins C dx f2)) l5 (.lst [])) p (.ins C dx (roomF l1 l4 l5)) b = some o := fun b o e ne => by
    rw [upd_ne ne, upd_ne (ne_of_none e n5'), upd_ne ne]
    exact e
  have f5 : upd (upd (upd H2 p (.ins C dx f2)) l5 (.lst [])) p (.ins C dx (roomF l1 l4 l5)) l5 = some (.lst []) := by rw [upd_ne np5, upd_same]
  have fp : upd (upd (upd H2 p (.ins C dx f2)) l5 (.lst [])) p (.ins C dx (roomF l1 l4 l5)) p = some (.ins C dx (roomF l1 l4 l5)) := upd_same
  generalize upd (upd (upd H2 p (.ins C dx f2)) l5 (.lst [])) p (.ins C dx (roomF l1 l4 l5)) = H3 at fin f5 fp
  refine k H3 l1 l2 l3 l4 l5 (fun b o e ne => fin _ _ (s4 _ _ (a1 _ _ e ne)) ne) fp (fin _ _ (s4 _ _ a3) l1p) (fin _ _ h2 l2p) (fin _ _ h3 l3p) (fin _ _ h4 l4p) f5 (fun z => ?_) d12 d13 n1 (a4 _ n2) (a4 _ n3') (a4 _ n4') (a4 _ (s4.free n5'))
  have := s4 _ _ a3
  rw [← z, n5'] at this
  cases this
def spInit (C : Addr) : Sp := fun vs H Q _ => ∃ p dx : Addr, vs = [.ref p] ∧ H p = some (.ins C dx []) ∧
  ∀ (H' : Hp) (ba ea : Addr), (∀ b o, H b = some o → b ≠ p → H' b = some o) → (∀ G, H' G = none → RoomAt C G H' p ba ea Vbceah.start) → H ba = none → H ea = none → Q .non H'
abbrev sInit : Stmt := inClass (topS 29) 0
theorem scInit : FnScope ["self"] ["self"] (C8.fnScope sInit) := C8.fnScope_by (by decide +kernel)
theorem mak_room {f : Addr} {fd : FuncData} (M : Mk K C f) (hm : mg "Room" = some (.ref C)) (F : C8.Fun K "__init__" "Room.__init__" sInit f fd) (b : Binds K fd ["self"] []) (Fo : C8.Met P w K mg base 1 C "forget_all" (spForget C) []) : C8.Mak P w K mg base 2 "Room" C (spInit C) [] := by
  refine C8.mak0 M hm F b .nil scInit (fun vs H Q E h => ?_) fun cdv A' outer s H vs Q E hr h => ⟨_,
    pss_one (ps_expr (C8.pe_mt0 Fo hr (by decide) (pv 0))), ?_⟩
  · obtain ⟨p, dx, rfl, _⟩ := h
    rfl
  obtain ⟨p, dx, rfl, hp, k⟩ := h
  refine ⟨_, rfl, p, dx, [], rfl, hp, rfl, p, dx, [], rfl, hp, .inl rfl, fun H' l1 l2 l3 l4 l5 e r h1 h2 h3 h4 h5 d51 d21 d31 n1 n2 n3 n4 n5 => ?_⟩
  have ng : ∀ G l xs, H' G = none → H' l = some (.lst xs) → G ≠ l := fun G l xs hG hl z => by rw [z, hl] at hG; cases hG
  exact k H' l1 l4 e (fun G hG => room_start r h1 h2 h3 h4 h5 d51 d21 d31 (ng _ _ _ hG h1) (ng _ _ _ hG h2) (ng _ _ _ hG h3) (ng _ _ _ hG h4) (ng _ _ _ hG h5)) n1 n4
/-! ### clear_all -/
abbrev sClear : Stmt := topS 58
theorem scClear : FnScope ["room", "numbers"] ["room", "numbers"] (C8.fnScope sClear) := C8.fnScope_by (by decide +kernel)
theorem cal_clear (h : Has K mg "clear_all" ["room", "numbers"] sClear) (nF : (("forget_all" : Str) == ("books" : Str)) = false ∧ (("forget_all" : Str) == ("empties" : Str)) = false ∧ (("forget_all" : Str) == ("order" : Str)) = false) (Fo : C8.Met P w K mg base 1 C "forget_all" (spForget C) []) : C8.Cal P w K mg base 2 "clear_all" (spAct C (gStep [[19]]) any) [] := by
  obtain ⟨f, fd, D, b⟩ := h
  refine C8.cal0 D b .nil scClear (fun vs H Q E h => ?_) fun cdv A' outer s H vs Q E hr h => ⟨_,
    pss_cons (ps_expr (C8.pe_mt0 Fo hr (by decide) (pv 0)))
    (pss_one (ps_ret (pe_lst (pa_cons pe_int pa_nil)))), ?_⟩
  · obtain ⟨G, r, na, ba, ea, s, ns, rfl, _⟩ := h
    rfl
  obtain ⟨G, r, na, ba, ea, s, ns, rfl, hR, hN, m1, m2, m3, ⟨oG, hG⟩, g, _, k⟩ := h
  obtain ⟨dx, oa, hr1, hB, hE, hO⟩ := hR.flds
  refine ⟨_, rfl, r, dx, _, rfl, hr1, (lk_miss nF.1).trans ((lk_miss nF.2.1).trans ((lk_miss nF.2.2).trans rfl)), r, dx, _, rfl, hr1, .inr ⟨ba, ea, oa, rfl⟩, fun H' l1 l2 l3 l4 l5 e r' h1 h2 h3 h4 h5 d51 d21 d31 n1 n2 n3 n4 n5 => ?_⟩
  have ng : ∀ l, H l = none → G ≠ l := fun l hl z => by rw [← z, hG] at hl; cases hl
  have R := room_start (G := G) r' h1 h2 h3 h4 h5 d51 d21 d31 (ng _ n1) (ng _ n2) (ng _ n3) (ng _ n4) (ng _ n5)
  have fr : ∀ q, H' q = none → H q = none := fun q hq => by
    cases c : H q with
    | none => rfl
    | some o =>
      by_cases z : q = r
      · rw [z, r'] at hq
        cases hq
      · rw [e q o c z] at hq
        cases hq
  refine ⟨(by show 1 ≤ sizeLine; decide), fun q hq => ?_⟩
  exact k _ q l1 l4 (fun b o c nb _ _ => same_new hq _ _ (e b o c nb)) (R.stays (same_new hq)) (.inr n1) (.inr n4) (fr q hq) upd_same
end
end Rm

set_option Elab.async false
set_option linter.all false
set_option maxRecDepth 100000
set_option maxHeartbeats 4000000
/-! sorted of tuples of whole numbers, negative ones too. -/
namespace Rx
open PySem PySem.Spec PySem.W PyProof.Rows L2
/-- the lesser at the first place at which they differ -/
def ltL : List Int → List Int → Bool
  | a :: l, b :: m => if a = b then ltL l m else decide (a < b)
  | [], _ :: _ => true
  | _, [] => false
theorem ltL_self : ∀ l : List Int, ltL l l = false
  | [] => rfl
  | a :: l => by
    show (if a = a then ltL l l else decide (a < a)) = false
    rw [if_pos rfl]
    exact ltL_self l
theorem ltL_asym : ∀ l m : List Int, ltL l m = true → ltL m l = false
  | [], [], _ => rfl
  | [], _ :: _, _ => rfl
  | _ :: _, [], h => nomatch h
  | a :: l, b :: m, h => by
    have h' : (if a = b then ltL l m else decide (a < b)) = true := h
    show (if b = a then ltL m l else decide (b < a)) = false
    by_cases c : a = b
    · rw [if_pos c] at h'
      rw [if_pos c.symm]
      exact ltL_asym l m h'
    · rw [if_neg c] at h'
      have := of_decide_eq_true h'
      rw [if_neg (fun z => c z.symm)]
      exact decide_eq_false (by omega)
theorem ltL_back : ∀ x y z : List Int, ltL y x = false → ltL z y = false → ltL z x = false
  | [], [], z, _, h => h
  | [], _ :: _, [], _, h => nomatch h
  | [], _ :: _, _ :: _, _, _ => rfl
  | _ :: _, [], _, h, _ => nomatch h
  | _ :: _, _ :: _, [], _, h => nomatch h
  | a :: x, b :: y, c :: z, h1, h2 => by
    have g1 : (if b = a then ltL y x else decide (b < a)) = false := h1
    have g2 : (if c = b then ltL z y else decide (c < b)) = false := h2
    show (if c = a then ltL z x else decide (c < a)) = false
    by_cases e1 : b = a
    · rw [if_pos e1] at g1
      by_cases e2 : c = b
      · rw [if_pos e2] at g2
        rw [if_pos (e2.trans e1)]
        exact ltL_back x y z g1 g2
      · rw [if_neg e2] at g2
        have := of_decide_eq_false g2
        rw [if_neg (by omega)]
        exact decide_eq_false (by omega)
    · rw [if_neg e1] at g1
      have o1 := of_decide_eq_false g1
      by_cases e2 : c = b
      · rw [if_neg (by omega)]
        exact decide_eq_false (by omega)
      · rw [if_neg e2] at g2
        have o2 := of_decide_eq_false g2
        rw [if_neg (by omega)]
        exact decide_eq_false (by omega)
theorem swo_L {α : Type} (k : α → List Int) : SrtO.Swo fun x y => ltL (k x) (k y) := ⟨fun x y => ltL_asym (k x) (k y), fun x y z => ltL_back (k x) (k y) (k z)⟩
section
variable {prog : Program} {w : World} {A : Around} {E : Value → Shared → Prop} {s : Shared}
theorem lexL {b : Bool} {Q : Bool → Shared → Prop} {us : List Value} {l : List Int} (hu : IntsAre us l) : ∀ {vs : List Value} {m : List Int} (i : Nat), IntsAre vs m → l.length = m.length → Q (ltL l m) s → KatLex prog w A b false Q (us.zip vs) i s := by
  induction hu with
  | nil =>
    intro vs m i hv el q
    cases hv with
    | nil => exact kat_nil q
    | cons c t hv => exact nomatch el
  | cons a t hu ih =>
    intro vs m i hv el q
    cases hv with
    | nil => exact nomatch el
    | cons c t' hv =>
      refine kat_cons (SeqAt.EqAt.int_int a t c t' prog w _ _ (kat_go (fun z => ?_) fun z => ?_))
      · have e : a = c := of_decide_eq_true z
        refine kat_yes (ih (i + 1) hv (Nat.succ.inj el) ?_)
        have q' : Q (if a = c then ltL _ _ else decide (a < c)) s := q
        rw [if_pos e] at q'
        exact q'
      · have e : ¬ a = c := of_decide_eq_false z
        have q' : Q (if a = c then ltL _ _ else decide (a < c)) s := q
        rw [if_neg e] at q'
        exact kat_no (TS.oneLt_ints _ q')
/-- what's sorted: tuples of d numbers -/
def TupsZ (h : Heap) (d : Nat) (k : Value → List Int) (vs : List Value) : Prop := ∀ v ∈ vs, TS.TupInts h v (k v) ∧ (k v).length = d
theorem heads_of {h : Heap} {d : Nat} {k : Value → List Int} (hd : 1 ≤ d) : ∀ {vs : List Value}, TupsZ h d k vs → ∃ fs, KatTups h vs fs ∧ fs.length = vs.length ∧ ∀ f ∈ fs, ∃ n t, f = Value.int n t
  | [], _ => ⟨[], KatTups.nil, rfl, fun _ hf => nomatch hf⟩
  | v :: vs, x => by
    obtain ⟨fs, kt, el, hi⟩ := heads_of hd (vs := vs) fun u hu => x u (.tail _ hu)
    obtain ⟨⟨a, xs, ev, ⟨o, ho, hc, n, hdt⟩, i⟩, hl⟩ := x v (.head _)
    have hlen := i.length
    have h0 : 0 < xs.toList.length := by omega
    obtain ⟨m, t, hm⟩ := i.all xs.toList[0] (List.getElem_mem h0)
    refine ⟨.int m t :: fs, ?_, congrArg (· + 1) el, fun f hf => ?_⟩
    · rw [ev]
      refine KatTups.cons ho hc hdt ?_ kt
      rw [← hm, Array.getElem?_eq_getElem (by rw [← Array.length_toList]; exact h0)]
      rfl
    · rcases List.mem_cons.mp hf with rfl | hf
      · exact ⟨m, t, rfl⟩
      · exact hi f hf
theorem tups_sortable {a : Addr} {vs : List Value} {d : Nat} {k : Value → List Int} (hd : 1 ≤ d) (hn : vs ≠ []) (hp : TupsZ s.heap d k vs) (ha : ∀ o, s.heap.get? a = some o → o.cls ≠ .type "tuple") : SrtO.SortableO prog w A s a vs fun x y => ltL (k x) (k y) := by
  intro h' kp
  have hp' : TupsZ h' d k vs := fun v hv => ⟨(hp v hv).1.keeps fun b o e c => kp b o (fun z => ha o (by rw [← z]; exact e) c) e, (hp v hv).2⟩
  obtain ⟨fs, t1, t2, t3⟩ := heads_of hd hp'
  refine ⟨tuples' true, fun Q E q => ?_, fun p q m1 m2 => ?_⟩
  · refine kat_kind (T := .type "int") t1 (by rw [t2]; exact List.length_pos_iff.mpr hn) (fun f hf => ?_) rfl ?_
    · obtain ⟨n, t, rfl⟩ := t3 f hf
      exact Looks.of_pure rfl
    · have e : (Value.type "int" != Value.type "tuple") = true := by first | decide +kernel | rfl
      rw [e]
      exact q
  · obtain ⟨⟨b1, xs, e1, ⟨o1, ho1, _, n1, hd1⟩, i1⟩, l1⟩ := hp' p.1 m1
    obtain ⟨⟨b2, ys, e2, ⟨o2, ho2, _, n2, hd2⟩, i2⟩, l2⟩ := hp' q.1 m2
    show wpAny (model prog w) A (keyLt' (tuples' true) p.1 q.1) (fun r s' => s' = { s with heap := h' } ∧ r = ltL (k p.1) (k q.1)) (fun _ _ => False) _
    generalize k p.1 = kp1 at i1 l1 ⊢
    generalize k q.1 = kq1 at i2 l2 ⊢
    rw [e1, e2]
    refine kat_lt ho1 hd1 ho2 hd2 ?_
    have z1 := i1.length
    have z2 := i2.length
    rw [Array.length_toList] at z1 z2
    have ez : decide (xs.size < ys.size) = false := decide_eq_false (by omega)
    rw [ez]
    exact lexL i1 0 i2 (by omega) ⟨rfl, rfl⟩
end
/-- sorted(xs), xs some tuples of d numbers (k tells them) -/
def rSortZ (K : PySem.W.Frag) (d : Nat) : List V → Hp → VK → Prop := fun vs H Q => ∃ (a : Addr) (xs : List V) (k : V → List Int), vs = [V.ref a] ∧ SqL K H a xs ∧ (∀ x ∈ xs, ∃ t, x = V.ref t ∧ SqT K H t ((k x).map V.int) ∧ (k x).length = d) ∧
  ∀ ys p, ys.Perm xs → ys.Pairwise (fun x y => ltL (k y) (k x) = false) → H p = none → Q (.ref p) (upd H p (.lst ys))
theorem cr_sortZ {X : Cx} {d : Nat} (hd : 1 ≤ d) : CallR X (.builtin "sorted") (rSortZ X.K d) := by
  intro pins s σ H vs us Q I r q
  obtain ⟨a, xs, k, rfl, hs, hx, fin⟩ := q
  obtain ⟨its, rv, hl, hz⟩ := I.list hs
  obtain ⟨u, rfl, ru⟩ := vals1 r
  obtain rfl : u = Value.ref a := ru
  obtain ⟨e1, e2⟩ := refs_back rv fun x m => (hx x m).elim fun t z => ⟨t, z.1⟩
  have tz : TupsZ s.heap d (fun u => k (backV u)) its := fun v hv => by
    obtain ⟨t, rfl⟩ := e2 v hv
    obtain ⟨t', e, ht, hl⟩ := hx (V.ref t) (by rw [e1]; exact List.mem_map_of_mem hv)
    cases e
    obtain ⟨is, rs, hT, _⟩ := I.tuple ht
    refine ⟨⟨t, is.toArray, rfl, hT, ?_⟩, hl⟩
    rw [List.toList_toArray]
    exact rs.ints
  have zl : its.length ≤ sizeLine := by rw [← rv.length]; exact hz
  refine SrtO.sorted_ord (swo_L fun u => k (backV u)) hl.isList zl (fun h2 h1 b hb kk => ?_) fun out o1 o2 => ?_
  · refine tups_sortable (s := { s with heap := h1 }) hd (fun z => by rw [z] at h2; exact absurd h2 (by decide)) (fun v hv => ⟨(tz v hv).1.keeps fun b o e _ => (kk b o e).2, (tz v hv).2⟩) fun o e c => ?_
    have e' : some o = some (seqObj "list" its.toArray 0) := e.symm.trans hb
    cases e'
    exact absurd (Value.type.inj c) (by decide)
  · have pm : (out.map backV).Perm xs := by
      rw [e1]
      exact o2.perm.map backV
    obtain ⟨n, hn⟩ := sortedAll_at s.heap its out.toArray
    refine ⟨.ref (s.heap.objs.size + 1), upd H (s.heap.objs.size + 1) (.lst (out.map backV)), I.laid (t' := s.toks) (fun b o e => sortedAll_old e) (Nat.le_succ _) ⟨by rw [pm.length_eq]; exact hz, out, n, vals_back fun u hu => e2 u (o2.perm.mem_iff.mp hu), hn⟩, rfl, fin _ _ pm ?_ (I.hok.fresh (Nat.le_succ _))⟩
    rw [List.pairwise_map]
    exact o1
end Rx

set_option Elab.async false
set_option linter.all false
set_option maxRecDepth 100000
set_option maxHeartbeats 4000000
/-! xs[i] += e: the reading of the old item. -/
namespace Rx
open PySem PySem.Spec PySem.W PyProof.Rows L2
def rGetN (K : PySem.W.Frag) : V → V → Hp → VK → Prop := fun x y H Q => ∃ (a : Addr) (xs : List V) (j : Nat) (z : V), x = .ref a ∧ y = .int (j : Int) ∧ SqL K H a xs ∧ xs[j]? = some z ∧ Q z H
theorem get_listN {X : Cx} : PGet X (rGetN X.K) := by
  intro pins s σ H x y u v Q I rx ry q
  obtain ⟨a, xs, j, z, rfl, rfl, hs, hz, fin⟩ := q
  cases rx
  obtain ⟨t, rfl⟩ := ry
  obtain ⟨its, rv, hl, hn⟩ := I.list hs
  obtain ⟨w, ew, rw'⟩ := rv.get hz
  have h63 := line63
  have hj : j < its.length := (List.getElem?_eq_some_iff.mp ew).1
  have hlen := rv.length
  exact getItem_listL hl.isList (by omega) (by omega) (by rw [Int.toNat_natCast]; exact ew) ⟨z, H, I, rw', fin⟩
end Rx

set_option Elab.async false
set_option linter.all false
set_option maxRecDepth 100000
set_option maxHeartbeats 4000000
/-! Blocks: the end of an order; a book's numbers. -/
namespace Rm
open PySem PySem.Spec PyProof.Rows L2
theorem rep_list (n b : Nat) : (List.replicate n [V.int (b : Int)]).flatten = nats (List.replicate n b) := by
  unfold nats
  rw [List.map_replicate]
  induction n with
  | zero => rfl
  | succ k ih =>
    rw [List.replicate_succ, List.replicate_succ, List.flatten_cons, ih]
    rfl
theorem nats_append (l m : List Nat) : nats (l ++ m) = nats l ++ nats m := List.map_append
theorem asOrder_take {bs : List Vbceah.Book} {row : List Nat} {i b : Nat} (h : row[i]? = some b) : asOrder bs (row.take (i + 1)) = asOrder bs (row.take i) ++ List.replicate (Vbceah.bookAt bs b).length b := by
  unfold asOrder
  rw [take_get h, List.flatMap_append]
  simp
theorem end_one {bs : List Vbceah.Book} {b : Nat} : Vbceah.endOfBlocks bs [b] = (Vbceah.blockOf (Vbceah.bookAt bs b)).both := by
  have a := both_ge (Vbceah.bookAt bs b)
  show max (0 + (Vbceah.blockOf (Vbceah.bookAt bs b)).two) (0 + (Vbceah.blockOf (Vbceah.bookAt bs b)).both) = _
  rw [blockOf_two]
  omega
theorem one_runs {bs : List Vbceah.Book} {b : Nat} (hb : b < bs.length) : ([b] : List Nat).Nodup ∧ ∀ x ∈ [b], x < bs.length := ⟨List.nodup_cons.mpr ⟨(fun z => nomatch z), List.nodup_nil⟩, fun x hx => by rw [List.mem_singleton.mp hx]; exact hb⟩
theorem sumI (f : Vbceah.Sheet → Nat) (l : List Vbceah.Sheet) : (l.map fun s => (f s : Int)).sum = (((l.map f).sum : Nat) : Int) := by
  induction l with
  | nil => rfl
  | cons a l ih =>
    rw [List.map_cons, List.sum_cons, ih, List.map_cons, List.sum_cons]
    omega
section
variable {P : Program} {w : World} {K : PySem.W.Frag} {mg : Str → Option Value} {base : Heap}
/-! ### end_of -/
def spEndOf : Sp := fun vs H Q _ => ∃ (ba oa : Addr) (bs : List Vbceah.Book) (order : List Nat), vs = [.ref ba, .ref oa] ∧ BooksAt H ba bs ∧ OrderAt H oa order ∧ bs.length ≤ 1000 ∧ order.length ≤ 1000 ∧ Runs bs [] order ∧
  ∀ H', Same H H' → Q (.int ((Vbceah.clockOf [] [] (Vbceah.sheetsOf bs order [])).two : Nat)) H'
abbrev sEndOf : Stmt := topS 13
theorem scEndOf : FnScope ["books", "order"] ["books", "order"] (C8.fnScope sEndOf) := C8.fnScope_by (by decide +kernel)
theorem cal_endOf (h : Has K mg "end_of" ["books", "order"] sEndOf) (Al : C8.Cal P w K mg base 4 "standings_along" spAlong []) : C8.Cal P w K mg base 5 "end_of" spEndOf [] := by
  obtain ⟨f, fd, D, b⟩ := h
  refine C8.cal0 D b .nil scEndOf (fun vs H Q E h => ?_) fun cdv A outer s H vs Q E hr h => ⟨_,
    pss_one (ps_ret (pe_ix ix_tup (pe_ix ix_tup (pe_ix ix_list (C8.pe_c Al hr (by decide) (by rfl) (pa_cons (pv 0) (pa_cons (pe_lst (pa_cons (pe_lst pa_nil) (pa_cons (pe_lst pa_nil) pa_nil))) (pa_cons (pv 1) pa_nil)))) (pe_un un_neg pe_int) (fun _ _ => rfl)) pe_int (fun _ _ => rfl)) pe_int (fun _ _ => rfl))), ?_⟩
  · obtain ⟨ba, oa, bs, order, rfl, _⟩ := h
    rfl
  obtain ⟨ba, oa, bs, order, rfl, hB, hO, h4, ho, R, k⟩ := h
  refine ⟨_, rfl, (by show 0 ≤ sizeLine; decide), fun p hp => ⟨(by show 0 ≤ sizeLine; decide), fun q hq => ⟨(by show 2 ≤ sizeLine; decide), fun e he => ?_⟩⟩⟩
  have s1 := same_new (o := .lst []) hp
  have s2 := same_new (o := .lst []) hq
  have s3 := same_new (o := .lst [.ref p, .ref q]) he
  have s := (s1.trans s2).trans s3
  have hp3 := (s2.trans s3) _ _ (upd_same (H := H) (a := p) (o := .lst []))
  have hq3 := s3 _ _ (upd_same (H := upd H p (.lst [])) (a := q) (o := .lst []))
  have he3 : upd (upd (upd H p (.lst [])) q (.lst [])) e (.lst [.ref p, .ref q]) e = some (.lst [.ref p, .ref q]) := upd_same
  generalize upd (upd (upd H p (.lst [])) q (.lst [])) e (.lst [.ref p, .ref q]) = H3 at s hp3 hq3 he3
  refine ⟨_, rfl, ba, e, oa, bs, [], [], order, rfl, BooksAt.stays _ _ _ _ s hB, ⟨p, q, he3, ⟨[], hp3, .nil⟩, ⟨[], hq3, .nil⟩⟩, OrderAt.stays _ _ _ _ s hO, fun _ h => (nomatch h), fun _ h => (nomatch h), h4, ho, R, fun H1 L g1 hT => ?_⟩
  obtain ⟨as, z, hz, ⟨pa, ca, hz1, _, hz2⟩⟩ := last_at hT
  refine ⟨_, rfl, L, _, _, _, rfl, rfl, .inl (.inl hz), atI_last _ _, z, _, 1, _, rfl, rfl, .inl (.inl hz1), rfl, ca, _, 1, _, rfl, rfl, .inl (.inl hz2), rfl, ?_⟩
  have el := lead0_eq (e1 := []) (e2 := []) R
  unfold lead0 at el
  rw [el]
  exact k H1 (s.trans g1)
/-! ### block_end -/
def spBlockEnd : Sp := fun vs H Q _ => ∃ (ba ra : Addr) (bs : List Vbceah.Book) (row : List Nat), vs = [.ref ba, .ref ra] ∧ BooksAt H ba bs ∧ OrderAt H ra row ∧ bs.length ≤ 1000 ∧ Vbceah.sheetsIn bs ≤ 12 ∧ row.Nodup ∧ (∀ b ∈ row, b < bs.length) ∧
  ∀ H', Same H H' → Q (.int (Vbceah.endOfBlocks bs row : Nat)) H'
abbrev sBlockEnd : Stmt := topS 14
abbrev nBlockEnd : List Str := ["books", "row", "order", "book"]
theorem scBlockEnd : FnScope nBlockEnd ["books", "row"] (C8.fnScope sBlockEnd) := C8.fnScope_by (by decide +kernel)
theorem cal_blockEnd (h : Has K mg "block_end" ["books", "row"] sBlockEnd) (O : Own mg) (Eo : C8.Cal P w K mg base 5 "end_of" spEndOf []) : C8.Cal P w K mg base 6 "block_end" spBlockEnd [] := by
  obtain ⟨f, fd, D, b⟩ := h
  refine C8.cal0 D b .nil scBlockEnd (fun vs H Q E h => ?_) fun cdv A outer s H vs Q E hr h => ⟨_,
    pss_cons (ps_set (i := 2) scBlockEnd.nd rfl (.inl rfl) (pe_lst pa_nil))
    (pss_cons (ps_for PassesOwn.never rfl (pi_list (pv 1)) (pg_name (i := 3) scBlockEnd.nd rfl (.inl rfl))
      (pss_one (ps_expr (pe_bm PySem.F.plainAttrs_list PySem.F.slot_list_extend PySem.F.type_list_extend mt_extend (pv 2) (pa_cons (pe_op op_rep (pe_lst (pa_cons (pv 3) pa_nil)) (pe_callB call_len_seq (by rfl) O.len PySem.boot_len (pa_cons (pe_ix ix_list (pv 0) (pv 3) (fun _ _ => rfl)) pa_nil))) pa_nil)))))
    (pss_one (ps_ret (C8.pe_c Eo hr (by decide) (by rfl) (pa_cons (pv 0) (pa_cons (pv 2) pa_nil)))))), ?_⟩
  · obtain ⟨ba, ra, bs, row, rfl, _⟩ := h
    rfl
  obtain ⟨ba, ra, bs, row, rfl, ⟨as, hl, hp⟩, hO, h4, h12, nd, hin, k⟩ := h
  have R := asOrder_runs nd hin
  have hlen := runs_len R
  refine ⟨(by show 0 ≤ sizeLine; decide), fun L hL => ?_⟩
  have s1 := same_new (o := .lst []) hL
  refine ⟨_, rfl, ra, rfl, ⟨_, .inl (.inl (s1 _ _ hO))⟩, for_list (K := K) (a := ra) (xs := nats row) (fun i σ H' => ∃ v : Option V, σ = [some (.ref ba), some (.ref ra), some (.ref L), v] ∧ H' L = some (.lst (nats (asOrder bs (row.take i)))) ∧ ∀ b o, H b = some o → H' b = some o)
    ⟨none, rfl, upd_same, s1⟩ (fun i σ H' _ ⟨_, _, _, s5⟩ => .inl (.inl (s5 _ _ hO))) ?_ ?_⟩
  · rintro i x σ H' hi ⟨v, rfl, hLi, s5⟩
    obtain ⟨n, hn, rfl⟩ := map_get hi
    have hb : n < bs.length := hin n (List.mem_of_getElem? hn)
    obtain ⟨qb, hq, ⟨ss, hbl, hbp⟩⟩ := LstOf.get hp (book_at hb)
    have hq' : (as.map V.ref)[n]? = some (.ref qb) := by rw [List.getElem?_map, hq]; rfl
    have el : (ss.map V.ref).length = (Vbceah.bookAt bs n).length := by rw [List.length_map]; exact Paired.length hbp
    have et := asOrder_take (bs := bs) hn
    have hle : (asOrder bs (row.take (i + 1))).length ≤ 12 := by
      have nd' : (row.take (i + 1)).Nodup := List.Nodup.sublist (List.take_sublist _ _) nd
      have := runs_len (asOrder_runs nd' fun b hb => hin b (List.mem_of_mem_take hb))
      omega
    rw [et, List.length_append, List.length_replicate] at hle
    refine ⟨_, rfl, .inl ⟨rfl, _, .inl (.inl hLi)⟩, _, rfl, (by show 1 ≤ sizeLine; decide), fun t ht => ?_⟩
    have st := same_new (o := .lst [V.int (n : Int)]) ht
    have htt : upd H' t (.lst [V.int (n : Int)]) t = some (.lst [V.int (n : Int)]) := upd_same
    have s6 : ∀ b o, H b = some o → upd H' t (.lst [V.int (n : Int)]) b = some o := fun b o e => st _ _ (s5 _ _ e)
    have hL6 := st _ _ hLi
    generalize upd H' t (.lst [V.int (n : Int)]) = H6 at htt s6 hL6
    refine ⟨_, rfl, _, rfl, ba, _, _, _, rfl, rfl, .inl (.inl (s6 _ _ hl)), atI_nat hq', qb, _, rfl, .inl (.inl (.inl (s6 _ _ hbl))), ?_⟩
    rw [el]
    refine ⟨t, _, _, rfl, rfl, htt, by omega, by omega, ?_, fun p hp => ?_⟩
    · rw [sizeLine_eq]
      show 1 * _ ≤ _
      omega
    rw [Int.toNat_natCast, rep_list]
    have hpp : upd H6 p (.lst (nats (List.replicate (Vbceah.bookAt bs n).length n))) p = some (.lst (nats (List.replicate (Vbceah.bookAt bs n).length n))) := upd_same
    have sp := same_new (o := .lst (nats (List.replicate (Vbceah.bookAt bs n).length n))) hp
    have hL7 := sp _ _ hL6
    refine ⟨L, p, _, _, rfl, rfl, hL7, hpp, ?_, ?_⟩
    · rw [nats_len, nats_len, List.length_replicate, sizeLine_eq]
      omega
    · refine ⟨_, rfl, ?_, fun b o e => ?_⟩
      · rw [upd_same, et, nats_append]
      · rw [upd_ne (ne_of_none e hL)]
        exact sp _ _ (s6 _ _ e)
  · rintro σ H' ⟨v, rfl, hLi, s5⟩
    rw [nats_len, List.take_length] at hLi
    refine ⟨_, rfl, _, rfl, ba, L, bs, _, rfl, ⟨as, s5 _ _ hl, Paired.mapP hp fun _ _ x => BookAt.stays _ _ _ _ s5 x⟩, hLi, h4, by omega, R, fun H1 g1 => ?_⟩
    have q := k H1 (Same.trans s5 g1)
    rw [end_order bs nd] at q
    exact q
/-! ### three_numbers -/
def spThree : Sp := fun vs H Q _ => ∃ (ba : Addr) (b : Nat) (bs : List Vbceah.Book), vs = [.ref ba, .int b] ∧ BooksAt H ba bs ∧ b < bs.length ∧ bs.length ≤ 1000 ∧ Vbceah.sheetsIn bs ≤ 12 ∧
  ∀ H' p, Same H H' → H p = none → H' p = some (.lst (nats [F1 (Vbceah.bookAt bs b), F2 (Vbceah.bookAt bs b), (Vbceah.blockOf (Vbceah.bookAt bs b)).both])) → Q (.ref p) H'
abbrev sThree : Stmt := topS 15
abbrev nThree : List Str := ["books", "book", "computed", "checked", "sheet"]
theorem scThree : FnScope nThree ["books", "book"] (C8.fnScope sThree) := C8.fnScope_by (by decide +kernel)
theorem book_le {bs : List Vbceah.Book} {b : Nat} (h : b < bs.length) : (Vbceah.bookAt bs b).length ≤ Vbceah.sheetsIn bs := by
  have h1 := runs_len (asOrder_runs (one_runs h).1 (one_runs h).2)
  have e : asOrder bs [b] = List.replicate (Vbceah.bookAt bs b).length b := by unfold asOrder; simp
  rw [e, List.length_replicate] at h1
  exact h1
theorem cal_three (h : Has K mg "three_numbers" ["books", "book"] sThree) (O : Own mg) (Be : C8.Cal P w K mg base 6 "block_end" spBlockEnd []) : C8.Cal P w K mg base 7 "three_numbers" spThree [] := by
  obtain ⟨f, fd, D, b⟩ := h
  refine C8.cal0 D b .nil scThree (fun vs H Q E h => ?_) fun cdv A outer s H vs Q E hr h => ⟨_,
    pss_cons (ps_set (i := 2) scThree.nd rfl (.inl rfl) (pe_callB (cr_sum rfl) (by rfl) O.sum (by decide +kernel) (pa_cons (pe_lc (own := [("sheet", 4)]) (g := gName 4) (by rfl) scThree.nd (pi_list (pe_ix ix_list (pv 0) (pv 1) (fun _ _ => rfl))) (blkOk_by (own := [("sheet", 4)]) (N := nThree) (sc := C8.fnScope sThree) (by decide +kernel))
      (fun _ _ _ _ _ => pg_name (i := 4) scThree.nd rfl (Or.inl rfl)) (fun _ _ _ _ _ => pts_nil) (fun _ _ _ _ _ => pe_ix (ix_tupK K) (pv 4) pe_int (fun _ _ => rfl))) pa_nil)))
    (pss_cons (ps_set (i := 3) scThree.nd rfl (.inl rfl) (pe_callB (cr_sum rfl) (by rfl) O.sum (by decide +kernel) (pa_cons (pe_lc (own := [("sheet", 4)]) (g := gName 4) (by rfl) scThree.nd (pi_list (pe_ix ix_list (pv 0) (pv 1) (fun _ _ => rfl))) (blkOk_by (own := [("sheet", 4)]) (N := nThree) (sc := C8.fnScope sThree) (by decide +kernel))
      (fun _ _ _ _ _ => pg_name (i := 4) scThree.nd rfl (Or.inl rfl)) (fun _ _ _ _ _ => pts_nil) (fun _ _ _ _ _ => pe_ix (ix_tupK K) (pv 4) pe_int (fun _ _ => rfl))) pa_nil)))
    (pss_one (ps_ret (pe_lst (pa_cons (pv 2) (pa_cons (pv 3) (pa_cons (C8.pe_c Be hr (by decide) (by rfl) (pa_cons (pv 0) (pa_cons (pe_lst (pa_cons (pv 1) pa_nil)) pa_nil))) pa_nil))))))), ?_⟩
  · obtain ⟨ba, b, bs, rfl, _⟩ := h
    rfl
  obtain ⟨ba, b, bs, rfl, ⟨as, hl, hp⟩, hb, h4, h12, k⟩ := h
  have hbl := book_le hb
  obtain ⟨qb, hq, ⟨ss, hB, hBp⟩⟩ := LstOf.get hp (book_at hb)
  have hq' : (as.map V.ref)[b]? = some (.ref qb) := by rw [List.getElem?_map, hq]; rfl
  have el : ss.length = (Vbceah.bookAt bs b).length := Paired.length hBp
  generalize hbk : Vbceah.bookAt bs b = bk at hbl hBp el k
  refine ⟨_, rfl, _, rfl, ba, _, _, _, rfl, rfl, .inl (.inl hl), atI_nat hq', qb, rfl, ⟨_, .inl (.inl hB)⟩, fun D hD => lc_list (K := K) (a := qb) (xs := ss.map V.ref) (fun i H' => Same H H' ∧ H' D = some (.lst (((bk.map fun s => (s.first : Int)).take i).map V.int)))
    ⟨same_new hD, upd_same⟩ (fun i H' _ ⟨s5, _⟩ => s5.seq (.inl (.inl hB))) ?_ ?_⟩
  · rintro i x H' hi ⟨s5, hD'⟩
    obtain ⟨p, hpi, rfl⟩ := map_get hi
    obtain ⟨sh, hs, hsp⟩ := LstOf.at hBp hpi
    have hsp' : H p = some (.tup [.int sh.first, .int sh.second]) := hsp
    refine ⟨rfl, _, rfl, p, _, 0, _, rfl, rfl, .inl (.inl (s5 _ _ hsp')), rfl, _, hD', ?_, same_upd s5 hD, ?_⟩
    · rw [List.length_map, List.length_take, List.length_map, sizeLine_eq]
      omega
    · have e : (bk.map fun s => (s.first : Int))[i]? = some (sh.first : Int) := by rw [List.getElem?_map, hs]; rfl
      rw [upd_same, take_get e, List.map_append]
      rfl
  rintro H1 ⟨s5, hD'⟩
  rw [List.length_map, el, List.take_of_length_le (by rw [List.length_map]; exact Nat.le_refl _)] at hD'
  refine ⟨D, _, rfl, .inl (.inl hD'), ?_⟩
  rw [sumI]
  have hl1 := s5 _ _ hl
  have hB1 := s5 _ _ hB
  refine ⟨_, rfl, _, rfl, ba, _, _, _, rfl, rfl, .inl (.inl hl1), atI_nat hq', qb, rfl, ⟨_, .inl (.inl hB1)⟩, fun D2 hD2 => lc_list (K := K) (a := qb) (xs := ss.map V.ref) (fun i H' => Same H1 H' ∧ H' D2 = some (.lst (((bk.map fun s => (s.second : Int)).take i).map V.int)))
    ⟨same_new hD2, upd_same⟩ (fun i H' _ ⟨s5, _⟩ => s5.seq (.inl (.inl hB1))) ?_ ?_⟩
  · rintro i x H' hi ⟨s6, hD''⟩
    obtain ⟨p, hpi, rfl⟩ := map_get hi
    obtain ⟨sh, hs, hsp⟩ := LstOf.at hBp hpi
    have hsp' : H p = some (.tup [.int sh.first, .int sh.second]) := hsp
    refine ⟨rfl, _, rfl, p, _, 1, _, rfl, rfl, .inl (.inl (s6 _ _ (s5 _ _ hsp'))), rfl, _, hD'', ?_, same_upd s6 hD2, ?_⟩
    · rw [List.length_map, List.length_take, List.length_map, sizeLine_eq]
      omega
    · have e : (bk.map fun s => (s.second : Int))[i]? = some (sh.second : Int) := by rw [List.getElem?_map, hs]; rfl
      rw [upd_same, take_get e, List.map_append]
      rfl
  rintro H2 ⟨s6, hD''⟩
  rw [List.length_map, el, List.take_of_length_le (by rw [List.length_map]; exact Nat.le_refl _)] at hD''
  refine ⟨D2, _, rfl, .inl (.inl hD''), ?_⟩
  rw [sumI]
  have s7 := s5.trans s6
  refine ⟨_, rfl, _, rfl, _, rfl, _, rfl, (by show 1 ≤ sizeLine; decide), fun t ht => ?_⟩
  have st := same_new (o := .lst [V.int (b : Int)]) ht
  have s8 := s7.trans st
  refine ⟨ba, t, bs, [b], rfl, ⟨as, s8 _ _ hl, Paired.mapP hp fun _ _ x => BookAt.stays _ _ _ _ s8 x⟩, upd_same, h4, h12, (one_runs hb).1, (one_runs hb).2, fun H3 g3 => ?_⟩
  refine ⟨(by show 3 ≤ sizeLine; decide), fun p hp => ?_⟩
  have s9 := s8.trans g3
  refine k _ p (same_upd s9 (s9.free hp)) (s9.free hp) ?_
  rw [upd_same, end_one, hbk]
  rfl
/-! ### lead_and_tail -/
def spLT : Sp := fun vs H Q _ => ∃ (ba : Addr) (b : Nat) (bs : List Vbceah.Book), vs = [.ref ba, .int b] ∧ BooksAt H ba bs ∧ b < bs.length ∧ bs.length ≤ 1000 ∧ Vbceah.sheetsIn bs ≤ 12 ∧
  ∀ H' p, Same H H' → H p = none → H' p = some (.lst (nats [Vbceah.lead (Vbceah.blockOf (Vbceah.bookAt bs b)), Vbceah.tail (Vbceah.blockOf (Vbceah.bookAt bs b))])) → Q (.ref p) H'
abbrev sLT : Stmt := topS 16
abbrev nLT : List Str := ["books", "book", "computed", "checked", "end"]
theorem scLT : FnScope nLT ["books", "book"] (C8.fnScope sLT) := C8.fnScope_by (by decide +kernel)
theorem cal_lt (h : Has K mg "lead_and_tail" ["books", "book"] sLT) (Th : C8.Cal P w K mg base 7 "three_numbers" spThree []) : C8.Cal P w K mg base 8 "lead_and_tail" spLT [] := by
  obtain ⟨f, fd, D, b⟩ := h
  refine C8.cal0 D b .nil scLT (fun vs H Q E h => ?_) fun cdv A outer s H vs Q E hr h => ⟨_,
    pss_cons (ps_asg (C8.pe_c Th hr (by decide) (by rfl) (pa_cons (pv 0) (pa_cons (pv 1) pa_nil))) (pg_lst rfl (pgs_cons (pg_name (i := 2) scLT.nd rfl (.inl rfl)) (pgs_cons (pg_name (i := 3) scLT.nd rfl (.inl rfl)) (pgs_cons (pg_name (i := 4) scLT.nd rfl (.inl rfl)) pgs_nil)))))
    (pss_one (ps_ret (pe_lst (pa_cons (pe_op op_sub (pv 4) (pv 3)) (pa_cons (pe_op op_sub (pv 4) (pv 2)) pa_nil))))), ?_⟩
  · obtain ⟨ba, b, bs, rfl, _⟩ := h
    rfl
  obtain ⟨ba, b, bs, rfl, hB, hb, h4, h12, k⟩ := h
  refine ⟨_, rfl, _, rfl, ba, b, bs, rfl, hB, hb, h4, h12, fun H1 p g1 n1 e1 => ?_⟩
  refine ⟨p, _, rfl, .inl (.inl e1), rfl, _, _, rfl, _, _, rfl, _, _, rfl, rfl, ?_⟩
  refine ⟨_, rfl, _, rfl, _, _, rfl, rfl, _, rfl, _, rfl, _, _, rfl, rfl, (by show 2 ≤ sizeLine; decide), fun q hq => ?_⟩
  refine k _ q (same_upd g1 (g1.free hq)) (g1.free hq) ?_
  have a := both_ge (Vbceah.bookAt bs b)
  have c1 : (((Vbceah.blockOf (Vbceah.bookAt bs b)).both : Nat) : Int) - ((F2 (Vbceah.bookAt bs b) : Nat) : Int) = ((Vbceah.lead (Vbceah.blockOf (Vbceah.bookAt bs b)) : Nat) : Int) := by
    unfold Vbceah.lead
    rw [blockOf_two]
    omega
  have c2 : (((Vbceah.blockOf (Vbceah.bookAt bs b)).both : Nat) : Int) - ((F1 (Vbceah.bookAt bs b) : Nat) : Int) = ((Vbceah.tail (Vbceah.blockOf (Vbceah.bookAt bs b)) : Nat) : Int) := by
    unfold Vbceah.tail
    rw [blockOf_one]
    omega
  rw [upd_same]
  dsimp only
  rw [c1, c2]
  rfl
end
end Rm

set_option Elab.async false
set_option linter.all false
set_option maxRecDepth 100000
set_option maxHeartbeats 4000000
/-! The books by the rule. -/
namespace Rm
open PySem PySem.Spec PyProof.Rows L2
/-- by what a book is ranked -/
def rankOf (bs : List Vbceah.Book) (i : Nat) : List Int :=
  if Vbceah.lead (Vbceah.blockOf (Vbceah.bookAt bs i)) ≤ Vbceah.tail (Vbceah.blockOf (Vbceah.bookAt bs i)) then [0, (Vbceah.lead (Vbceah.blockOf (Vbceah.bookAt bs i)) : Int), (i : Int)]
  else [1, -(Vbceah.tail (Vbceah.blockOf (Vbceah.bookAt bs i)) : Int), (i : Int)]
theorem rank_len (bs : List Vbceah.Book) (i : Nat) : (rankOf bs i).length = 3 := by
  unfold rankOf
  split <;> rfl
theorem rank_two (bs : List Vbceah.Book) (i : Nat) : (rankOf bs i)[2]? = some (i : Int) := by
  unfold rankOf
  split <;> rfl
theorem rank_goes {bs : List Vbceah.Book} {i j : Nat} (ne : i ≠ j) (h : Rx.ltL (rankOf bs j) (rankOf bs i) = false) : Vbceah.goesFirst (blk bs i) (blk bs j) = true := by
  unfold Vbceah.goesFirst blk
  unfold rankOf at h
  dsimp only
  by_cases ci : Vbceah.lead (Vbceah.blockOf (Vbceah.bookAt bs i)) ≤ Vbceah.tail (Vbceah.blockOf (Vbceah.bookAt bs i)) <;> by_cases cj : Vbceah.lead (Vbceah.blockOf (Vbceah.bookAt bs j)) ≤ Vbceah.tail (Vbceah.blockOf (Vbceah.bookAt bs j))
  all_goals
    generalize Vbceah.lead (Vbceah.blockOf (Vbceah.bookAt bs i)) = li at *
    generalize Vbceah.lead (Vbceah.blockOf (Vbceah.bookAt bs j)) = lj at *
    generalize Vbceah.tail (Vbceah.blockOf (Vbceah.bookAt bs i)) = ti at *
    generalize Vbceah.tail (Vbceah.blockOf (Vbceah.bookAt bs j)) = tj at *
  · rw [if_pos ci, if_pos cj] at h
    simp only [Rx.ltL, if_pos] at h
    simp only [ci, cj, decide_true, bne_self_eq_false, if_true, Bool.false_eq_true, if_false]
    by_cases e : lj = li
    · subst e
      have nj : ¬ ((j : Int) = (i : Int)) := fun z => ne (by omega)
      simp only [if_true, nj, if_false] at h
      have h' := of_decide_eq_false h
      simp
      omega
    · have : ¬ ((lj : Int) = (li : Int)) := fun z => e (by omega)
      simp only [this, if_false] at h
      have h' := of_decide_eq_false h
      simp
      omega
  · simp only [ci, cj, decide_true, decide_false]
    rfl
  · exfalso
    rw [if_neg ci, if_pos cj] at h
    simp [Rx.ltL] at h
  · rw [if_neg ci, if_neg cj] at h
    simp only [Rx.ltL, if_pos] at h
    simp only [ci, cj, decide_false, bne_self_eq_false, Bool.false_eq_true, if_false]
    by_cases e : tj = ti
    · subst e
      have nj : ¬ ((j : Int) = (i : Int)) := fun z => ne (by omega)
      simp only [if_true, nj, if_false] at h
      have h' := of_decide_eq_false h
      simp
      omega
    · have : ¬ (-(tj : Int) = -(ti : Int)) := fun z => e (by omega)
      simp only [this, if_false] at h
      have h' := of_decide_eq_false h
      simp
      omega
section
variable {P : Program} {w : World} {K : PySem.W.Frag} {mg : Str → Option Value} {base : Heap}
def RankAt (bs : List Vbceah.Book) : Shape Nat := fun H a i => H a = some (.tup ((rankOf bs i).map V.int))
def spByRule : Sp := fun vs H Q _ => ∃ (ba : Addr) (bs : List Vbceah.Book), vs = [.ref ba] ∧ BooksAt H ba bs ∧ bs.length ≤ 1000 ∧ Vbceah.sheetsIn bs ≤ 12 ∧
  ∀ H' p, Same H H' → OrderAt H' p (Vbceah.ruled bs) → Q (.ref p) H'
abbrev sByRule : Stmt := topS 17
abbrev nByRule : List Str := ["books", "ranked", "book", "lead", "tail", "rank"]
theorem scByRule : FnScope nByRule ["books"] (C8.fnScope sByRule) := C8.fnScope_by (by decide +kernel)
/-- the numbers that a tuple in the heap holds -/
def unInt : V → Int
  | .int i => i
  | _ => 0
def numsOf (H : Hp) : V → List Int
  | .ref a => match H a with
    | some (.tup xs) => xs.map unInt
    | _ => []
  | _ => []
theorem nums_rank {bs : List Vbceah.Book} {H : Hp} {a : Addr} {i : Nat} (h : RankAt bs H a i) : numsOf H (.ref a) = rankOf bs i := by
  have h' : H a = some (.tup ((rankOf bs i).map V.int)) := h
  show (match H a with
    | some (.tup xs) => xs.map unInt
    | _ => []) = _
  rw [h']
  dsimp only
  rw [List.map_map]
  exact List.map_id _
def idxOf (H : Hp) (x : V) : Nat := ((numsOf H x).getD 2 0).toNat
theorem idx_rank {bs : List Vbceah.Book} {H : Hp} {a : Addr} {i : Nat} (h : RankAt bs H a i) : idxOf H (.ref a) = i := by
  unfold idxOf
  rw [nums_rank h, List.getD_eq_getElem?_getD, rank_two]
  exact Int.toNat_natCast i
theorem idx_all {bs : List Vbceah.Book} {H : Hp} : ∀ {rs : List Addr} {l : List Nat}, Paired (fun p x => RankAt bs H p x) rs l → (rs.map V.ref).map (idxOf H) = l
  | _, _, .nil => rfl
  | _, _, .cons r t => by rw [List.map_cons, List.map_cons, idx_rank r, idx_all t]
theorem rank_upd {bs : List Vbceah.Book} {H : Hp} {L p : Addr} {xs ys : List V} {i : Nat} (hL : H L = some (.lst xs)) (h : RankAt bs H p i) : RankAt bs (upd H L (.lst ys)) p i := by
  have h' : H p = some (.tup ((rankOf bs i).map V.int)) := h
  show _ = some (HO.tup _)
  rw [upd_ne (ne_of h' hL (fun z => nomatch z))]
  exact h'
theorem cal_byRule (h : Has K mg "books_by_rule" ["books"] sByRule) (O : Own mg) (Lt : C8.Cal P w K mg base 8 "lead_and_tail" spLT []) (so : mg "sorted" = none) : C8.Cal P w K mg base 9 "books_by_rule" spByRule [] := by
  obtain ⟨f, fd, D, b⟩ := h
  refine C8.cal0 D b .nil scByRule (fun vs H Q E h => ?_) fun cdv A outer s H vs Q E hr h => ⟨_,
    pss_cons (ps_set (i := 1) scByRule.nd rfl (.inl rfl) (pe_lst pa_nil))
    (pss_cons (ps_for PassesOwn.never rfl (pi_range1 (by rfl) O.range (pa_cons (pe_callB call_len_seq (by rfl) O.len PySem.boot_len (pa_cons (pv 0) pa_nil)) pa_nil)) (pg_name (i := 2) scByRule.nd rfl (.inl rfl))
      (pss_cons (ps_asg (C8.pe_c Lt hr (by decide) (by rfl) (pa_cons (pv 0) (pa_cons (pv 2) pa_nil))) (pg_lst rfl (pgs_cons (pg_name (i := 3) scByRule.nd rfl (.inl rfl)) (pgs_cons (pg_name (i := 4) scByRule.nd rfl (.inl rfl)) pgs_nil))))
      (pss_one (ps_if (pt_cmpR op_le (pv 3) (pv 4) (nomark _))
        (pss_one (ps_expr (pe_bm PySem.F.plainAttrs_list PySem.F.slot_list_append PySem.F.type_list_append mt_append (pv 1) (pa_cons (pe_tup (pa_cons pe_int (pa_cons (pv 3) (pa_cons (pv 2) pa_nil)))) pa_nil))))
        (pss_one (ps_expr (pe_bm PySem.F.plainAttrs_list PySem.F.slot_list_append PySem.F.type_list_append mt_append (pv 1) (pa_cons (pe_tup (pa_cons pe_int (pa_cons (pe_un un_neg (pv 4)) (pa_cons (pv 2) pa_nil)))) pa_nil))))))))
    (pss_one (ps_ret (pe_lc (own := [("rank", 5)]) (g := gName 5) (by rfl) scByRule.nd (pi_list (pe_callB (Rx.cr_sortZ (d := 3) (by decide)) (by rfl) so (by decide +kernel) (pa_cons (pv 1) pa_nil))) (blkOk_by (own := [("rank", 5)]) (N := nByRule) (sc := C8.fnScope sByRule) (by decide +kernel))
      (fun _ _ _ _ _ => pg_name (i := 5) scByRule.nd rfl (Or.inl rfl)) (fun _ _ _ _ _ => pts_nil) (fun _ _ _ _ _ => pe_ix (ix_tupK K) (pv 5) pe_int (fun _ _ => rfl)))))), ?_⟩
  · obtain ⟨ba, bs, rfl, _⟩ := h
    rfl
  obtain ⟨ba, bs, rfl, ⟨as, hl, hp⟩, h4, h12, k⟩ := h
  have elb : (as.map V.ref).length = bs.length := by rw [List.length_map]; exact Paired.length hp
  refine ⟨(by show 0 ≤ sizeLine; decide), fun L hL => ?_⟩
  have s1 := same_new (o := .lst []) hL
  refine ⟨_, rfl, ba, _, rfl, .inl (.inl (.inl (s1 _ _ hl))), bs.length, by rw [elb], by omega, by omega, ?_⟩
  refine for_range (lo := 0) (n := bs.length) (fun i σ H' => ∃ (v2 v3 v4 : Option V) (rs : List Addr), σ = [some (.ref ba), some (.ref L), v2, v3, v4, none] ∧ H' L = some (.lst (rs.map V.ref)) ∧ Paired (fun p x => RankAt bs H' p x) rs (List.range i) ∧ ∀ b o, H b = some o → H' b = some o)
    ⟨none, none, none, [], rfl, upd_same, .nil, s1⟩ ?_ ?_
  · rintro i σ H' hi ⟨v2, v3, v4, rs0, rfl, hLr, hP, s5⟩
    have ei : ((0 : Int) + (i : Nat)) = ((i : Nat) : Int) := by omega
    refine ⟨_, rfl, _, rfl, ?_⟩
    refine ⟨ba, i, bs, by rw [ei] <;> rfl, ⟨as, s5 _ _ hl, Paired.mapP hp fun _ _ x => BookAt.stays _ _ _ _ s5 x⟩, hi, h4, h12, fun H1 p g1 n1 e1 => ?_⟩
    refine ⟨p, _, rfl, .inl (.inl e1), rfl, _, _, rfl, _, _, rfl, rfl, ?_⟩
    have hL1 := g1 _ _ hLr
    have hP1 : Paired (fun p x => RankAt bs H1 p x) rs0 (List.range i) := Paired.mapP hP fun _ _ x => g1 _ _ x
    have fin : ∀ (a b c : Int), rankOf bs i = [a, b, c] → ∀ t, H1 t = none → ∃ (v2 v3 v4 : Option V) (rs : List Addr), (([some (.ref ba), some (.ref L), some (.int (0 + (i : Nat))), some (.int (Vbceah.lead (Vbceah.blockOf (Vbceah.bookAt bs i)) : Nat)), some (.int (Vbceah.tail (Vbceah.blockOf (Vbceah.bookAt bs i)) : Nat)), none] : L2.St) = [some (.ref ba), some (.ref L), v2, v3, v4, none]) ∧
        upd (upd H1 t (.tup [.int a, .int b, .int c])) L (.lst (rs0.map V.ref ++ [.ref t])) L = some (.lst (rs.map V.ref)) ∧ Paired (fun p x => RankAt bs (upd (upd H1 t (.tup [.int a, .int b, .int c])) L (.lst (rs0.map V.ref ++ [.ref t]))) p x) rs (List.range (i + 1)) ∧ ∀ b' o, H b' = some o → upd (upd H1 t (.tup [.int a, .int b, .int c])) L (.lst (rs0.map V.ref ++ [.ref t])) b' = some o := fun a b c er t ht => by
      have st := same_new (o := .tup [.int a, .int b, .int c]) ht
      have hL2 := st _ _ hL1
      have htt : RankAt bs (upd H1 t (.tup [.int a, .int b, .int c])) t i := by
        show _ = some (HO.tup _)
        rw [upd_same, er]
        rfl
      refine ⟨_, _, _, rs0 ++ [t], rfl, ?_, ?_, fun b' o e => ?_⟩
      · rw [upd_same, List.map_append]
        rfl
      · rw [List.range_succ]
        exact Paired.snoc (Paired.mapP hP1 fun _ _ x => rank_upd hL2 (st _ _ x)) (rank_upd hL2 htt)
      · rw [upd_ne (ne_of_none e hL)]
        exact st _ _ (g1 _ _ (s5 _ _ e))
    have sz : (rs0.map V.ref).length < sizeLine := by
      have := Paired.length hP
      rw [List.length_range] at this
      rw [List.length_map, sizeLine_eq]
      omega
    refine ⟨_, rfl, _, rfl, _, _, rfl, rfl, _, rfl, ifB (fun c => ?_) fun c => ?_⟩
    · have c' : Vbceah.lead (Vbceah.blockOf (Vbceah.bookAt bs i)) ≤ Vbceah.tail (Vbceah.blockOf (Vbceah.bookAt bs i)) := by simpa using c
      refine ⟨_, rfl, .inl ⟨rfl, _, .inl (.inl hL1)⟩, _, rfl, _, rfl, (by show 3 ≤ sizeLine; decide), fun t ht => ?_⟩
      refine ⟨L, _, _, rfl, rfl, same_new ht _ _ hL1, sz, fin _ _ _ ?_ t ht⟩
      rw [ei]
      unfold rankOf
      rw [if_pos c']
    · have c' : ¬ Vbceah.lead (Vbceah.blockOf (Vbceah.bookAt bs i)) ≤ Vbceah.tail (Vbceah.blockOf (Vbceah.bookAt bs i)) := by simpa using c
      refine ⟨_, rfl, .inl ⟨rfl, _, .inl (.inl hL1)⟩, _, rfl, _, rfl, _, rfl, (by show 3 ≤ sizeLine; decide), fun t ht => ?_⟩
      refine ⟨L, _, _, rfl, rfl, same_new ht _ _ hL1, sz, fin _ _ _ ?_ t ht⟩
      rw [ei]
      unfold rankOf
      rw [if_neg c']
  · rintro σ H' ⟨v2, v3, v4, rs, rfl, hLr, hP, s5⟩
    have mem : ∀ x ∈ rs.map V.ref, ∃ t i, x = .ref t ∧ RankAt bs H' t i := fun x hx => by
      obtain ⟨j, hj⟩ := List.getElem?_of_mem hx
      obtain ⟨t, ht, rfl⟩ := map_get hj
      obtain ⟨i, _, hi⟩ := LstOf.at hP ht
      exact ⟨t, i, rfl, hi⟩
    refine ⟨_, rfl, L, rs.map V.ref, numsOf H', rfl, .inl (.inl hLr), fun x hx => ?_, fun ys p pm pw hp => ?_⟩
    · obtain ⟨t, i, rfl, hi⟩ := mem x hx
      exact ⟨t, rfl, .inl (.inl (by rw [nums_rank hi]; exact hi)), by rw [nums_rank hi]; exact rank_len bs i⟩
    have sp := same_new (o := .lst ys) hp
    have hpp : upd H' p (.lst ys) p = some (.lst ys) := upd_same
    have mem' : ∀ x ∈ ys, ∃ t i, x = .ref t ∧ RankAt bs H' t i := fun x hx => mem x (pm.mem_iff.mp hx)
    have po : (ys.map (idxOf H')).Perm (List.range bs.length) := by
      have := pm.map (idxOf H')
      rw [idx_all hP] at this
      exact this
    have nd : (ys.map (idxOf H')).Nodup := po.nodup_iff.mpr List.nodup_range
    have eo : ys.map (idxOf H') = Vbceah.ruled bs := by
      refine ruled_is po ?_
      rw [List.pairwise_map]
      unfold List.Nodup at nd
      rw [List.pairwise_map] at nd
      refine (pw.and nd).imp_of_mem fun {x y} hx hy h => ?_
      obtain ⟨t, i, rfl, hi⟩ := mem' x hx
      obtain ⟨u, j, rfl, hj⟩ := mem' y hy
      have h1 := h.1
      have h2 := h.2
      rw [nums_rank hi, nums_rank hj] at h1
      rw [idx_rank hi, idx_rank hj] at h2 ⊢
      exact rank_goes h2 h1
    have hz : ys.length ≤ 1000 := by
      have := po.length_eq
      rw [List.length_map, List.length_range] at this
      omega
    generalize upd H' p (.lst ys) = H2 at sp hpp
    refine ⟨p, rfl, ⟨_, .inl (.inl hpp)⟩, fun D hD => lc_list (K := K) (a := p) (xs := ys) (fun i H3 => Same H2 H3 ∧ H3 D = some (.lst (nats ((ys.map (idxOf H')).take i)))) ⟨same_new hD, upd_same⟩ (fun i H3 _ ⟨s6, _⟩ => s6.seq (.inl (.inl hpp))) ?_ ?_⟩
    · rintro i x H3 hi ⟨s6, hD'⟩
      obtain ⟨t, j, rfl, hj⟩ := mem' x (List.mem_of_getElem? hi)
      have ht3 : H3 t = some (.tup ((rankOf bs j).map V.int)) := s6 _ _ (sp _ _ hj)
      have h2 : ((rankOf bs j).map V.int)[2]? = some (.int (j : Int)) := by rw [List.getElem?_map, rank_two]; rfl
      refine ⟨rfl, _, rfl, t, _, 2, _, rfl, rfl, .inl (.inl ht3), atI_nat (j := 2) h2, _, hD', ?_, same_upd s6 hD, ?_⟩
      · rw [nats_len, List.length_take, List.length_map, sizeLine_eq]
        omega
      · have e : (ys.map (idxOf H'))[i]? = some j := by rw [List.getElem?_map, hi]; show some (idxOf H' (.ref t)) = _; rw [idx_rank hj]
        rw [upd_same, take_get e, nats_append]
        rfl
    · rintro H3 ⟨s6, hD'⟩
      rw [List.take_of_length_le (by rw [List.length_map]; exact Nat.le_refl _), eo] at hD'
      exact k H3 D (fun b o e => s6 _ _ (sp _ _ (s5 _ _ e))) hD'
end
end Rm

set_option Elab.async false
set_option linter.all false
set_option maxRecDepth 100000
set_option maxHeartbeats 4000000
/-! The sheet on which the end hangs. -/
namespace Rm
open PySem PySem.Spec PyProof.Rows L2
theorem sheets_cons {bs : List Vbceah.Book} {b : Nat} {l had : List Nat} {s : Vbceah.Sheet} (h : (Vbceah.bookAt bs b)[had.count b]? = some s) : Vbceah.sheetsOf bs (b :: l) had = s :: Vbceah.sheetsOf bs l (had ++ [b]) := by
  show (match (Vbceah.bookAt bs b)[Vbceah.doneOf had b]? with | none => Vbceah.sheetsOf bs l had | some s => s :: Vbceah.sheetsOf bs l (had ++ [b])) = _
  have e : Vbceah.doneOf had b = had.count b := rfl
  rw [e, h]
theorem sheets_snoc {bs : List Vbceah.Book} {b : Nat} : ∀ {l had : List Nat}, Runs bs had l → Vbceah.sheetsOf bs (l ++ [b]) had = Vbceah.sheetsOf bs l had ++ Vbceah.sheetsOf bs [b] (had ++ l)
  | [], had, _ => by rw [List.append_nil]; rfl
  | a :: l, had, R => by
    obtain ⟨s, hs, _, R'⟩ := runs_next (e1 := []) (e2 := []) R ⟨0, 0⟩
    rw [List.cons_append, sheets_cons hs, sheets_cons hs, sheets_snoc R', List.append_assoc]
    rfl
theorem sheets_step {bs : List Vbceah.Book} {order : List Nat} {i b : Nat} (R : Runs bs [] order) (h : order[i]? = some b) : b < bs.length ∧ ∃ s, (Vbceah.bookAt bs b)[(order.take i).count b]? = some s ∧
    Vbceah.sheetsOf bs (order.take (i + 1)) [] = Vbceah.sheetsOf bs (order.take i) [] ++ [s] ∧ Vbceah.progress bs (order.take (i + 1)) = (Vbceah.progress bs (order.take i)).set b ((order.take i).count b + 1) := by
  have hb : b < bs.length := R.1 b (List.mem_of_getElem? h)
  have Ri := runs_take R i
  have et := take_get h
  have R1 := runs_take R (i + 1)
  rw [et] at R1
  have Rb : Runs bs (order.take i) [b] := ⟨fun j hj => by rw [List.mem_singleton.mp hj]; exact hb, fun j hj => by have := R1.2 j hj; rwa [List.nil_append] at this⟩
  obtain ⟨s, hs, _, _⟩ := runs_next (e1 := []) (e2 := []) Rb ⟨0, 0⟩
  refine ⟨hb, s, hs, ?_, ?_⟩
  · rw [et, sheets_snoc Ri, List.nil_append, sheets_cons hs]
    rfl
  · rw [et, progress_snoc hb]
theorem nats_set1 {l : List Nat} {b n : Nat} : (nats l).set b (V.int (n : Int)) = nats (l.set b n) := by
  unfold nats
  rw [List.map_set]
section
variable {P : Program} {w : World} {K : PySem.W.Frag} {mg : Str → Option Value} {base : Heap}
def spSheets : Sp := fun vs H Q _ => ∃ (ba oa : Addr) (bs : List Vbceah.Book) (order : List Nat), vs = [.ref ba, .ref oa] ∧ BooksAt H ba bs ∧ OrderAt H oa order ∧ bs.length ≤ 1000 ∧ order.length ≤ 1000 ∧ Runs bs [] order ∧
  ∀ H' p, Same H H' → LstOf SheetAt H' p (Vbceah.sheetsOf bs order []) → Q (.ref p) H'
abbrev sSheets : Stmt := topS 18
abbrev nSheets : List Str := ["books", "order", "taken", "sheets", "book"]
theorem scSheets : FnScope nSheets ["books", "order"] (C8.fnScope sSheets) := C8.fnScope_by (by decide +kernel)
theorem cal_sheets (h : Has K mg "sheets_along" ["books", "order"] sSheets) (O : Own mg) : C8.Cal P w K mg base 1 "sheets_along" spSheets [] := by
  obtain ⟨f, fd, D, b⟩ := h
  refine C8.cal0 D b .nil scSheets (fun vs H Q E h => ?_) fun cdv A outer s H vs Q E hr h => ⟨_,
    pss_cons (ps_set (i := 2) scSheets.nd rfl (.inl rfl) (pe_op op_rep (pe_lst (pa_cons pe_int pa_nil)) (pe_callB call_len_seq (by rfl) O.len PySem.boot_len (pa_cons (pv 0) pa_nil))))
    (pss_cons (ps_set (i := 3) scSheets.nd rfl (.inl rfl) (pe_lst pa_nil))
    (pss_cons (ps_for PassesOwn.never rfl (pi_list (pv 1)) (pg_name (i := 4) scSheets.nd rfl (.inl rfl))
      (pss_cons (ps_expr (pe_bm PySem.F.plainAttrs_list PySem.F.slot_list_append PySem.F.type_list_append mt_append (pv 3) (pa_cons (pe_ix ix_list (pe_ix ix_list (pv 0) (pv 4) (fun _ _ => rfl)) (pe_ix ix_list (pv 2) (pv 4) (fun _ _ => rfl)) (fun _ _ => rfl)) pa_nil)))
      (pss_one (ps_augS (pv 2) (pv 4) Rx.get_listN pe_int ip_add set_list))))
    (pss_one (ps_ret (pv 3))))), ?_⟩
  · obtain ⟨ba, oa, bs, order, rfl, _⟩ := h
    rfl
  obtain ⟨ba, oa, bs, order, rfl, ⟨as, hl, hp⟩, hO, h4, ho, R, k⟩ := h
  have elb : (as.map V.ref).length = bs.length := by rw [List.length_map]; exact Paired.length hp
  refine ⟨(by show 1 ≤ sizeLine; decide), fun t ht => ?_⟩
  have st := same_new (o := .lst [V.int 0]) ht
  refine ⟨_, rfl, ba, _, rfl, .inl (.inl (.inl (st _ _ hl))), t, _, _, rfl, rfl, upd_same, by omega, by rw [elb]; omega, ?_, fun T hT => ?_⟩
  · rw [elb, sizeLine_eq]
    show 1 * _ ≤ _
    omega
  rw [elb, Int.toNat_natCast, rep_nats]
  have hTT : upd (upd H t (.lst [V.int 0])) T (.lst (nats (Vbceah.zeros bs.length))) T = some (.lst (nats (Vbceah.zeros bs.length))) := upd_same
  have hT0 : H T = none := st.free hT
  have sT := st.trans (same_new (o := .lst (nats (Vbceah.zeros bs.length))) hT)
  generalize upd (upd H t (.lst [V.int 0])) T (.lst (nats (Vbceah.zeros bs.length))) = H1 at hTT sT
  refine ⟨(by show 0 ≤ sizeLine; decide), fun S hS => ?_⟩
  have hS0 : H S = none := sT.free hS
  have nTS : T ≠ S := fun z => by rw [z, hS] at hTT; cases hTT
  have s2 := same_new (o := .lst []) hS
  have hT2 := s2 _ _ hTT
  have hS2 : upd H1 S (.lst []) S = some (.lst []) := upd_same
  have s2' := sT.trans s2
  generalize upd H1 S (.lst []) = H2 at s2 hT2 hS2 s2'
  refine ⟨_, rfl, oa, rfl, ⟨_, .inl (.inl (s2' _ _ hO))⟩, for_list (K := K) (a := oa) (xs := nats order) (fun i σ H' => ∃ (v : Option V) (ss : List Addr), σ = [some (.ref ba), some (.ref oa), some (.ref T), some (.ref S), v] ∧ H' T = some (.lst (nats (Vbceah.progress bs (order.take i)))) ∧
    H' S = some (.lst (ss.map V.ref)) ∧ Paired (fun p x => SheetAt H' p x) ss (Vbceah.sheetsOf bs (order.take i) []) ∧ ∀ b o, H b = some o → H' b = some o) ⟨none, [], rfl, ?_, hS2, .nil, s2'⟩ (fun i σ H' _ ⟨_, _, _, _, _, _, s5⟩ => .inl (.inl (s5 _ _ hO))) ?_ ?_⟩
  · rw [List.take_zero, progress_nil]
    exact hT2
  · rintro i x σ H' hi ⟨v, ss, rfl, hTi, hSi, hP, s5⟩
    obtain ⟨n, hn, rfl⟩ := map_get hi
    obtain ⟨hb, sh, hs, es, ep⟩ := sheets_step R hn
    obtain ⟨qb, hq, ⟨us, hbl, hbp⟩⟩ := LstOf.get hp (book_at hb)
    have hq' : (as.map V.ref)[n]? = some (.ref qb) := by rw [List.getElem?_map, hq]; rfl
    obtain ⟨qs, hqs, hSh⟩ := LstOf.get hbp hs
    have hqs' : (us.map V.ref)[(order.take i).count n]? = some (.ref qs) := by rw [List.getElem?_map, hqs]; rfl
    have hpg : (nats (Vbceah.progress bs (order.take i)))[n]? = some (.int ((order.take i).count n : Nat)) := by
      refine nats_get ?_
      have := progress_getD (l := order.take i) hb
      rw [List.getD_eq_getElem?_getD, List.getElem?_eq_getElem (by rw [progress_len]; exact hb)] at this
      rw [List.getElem?_eq_getElem (by rw [progress_len]; exact hb)]
      exact congrArg some this
    have hlen := Paired.length hP
    rw [sheets_len (runs_take R i), List.length_take] at hlen
    refine ⟨_, rfl, .inl ⟨rfl, _, .inl (.inl hSi)⟩, _, rfl, _, rfl, ba, _, _, _, rfl, rfl, .inl (.inl (s5 _ _ hl)), atI_nat hq', ?_⟩
    refine ⟨_, rfl, _, rfl, T, _, _, _, rfl, rfl, .inl (.inl hTi), atI_nat hpg, qb, _, _, _, rfl, rfl, .inl (.inl (s5 _ _ hbl)), atI_nat hqs', S, _, _, rfl, rfl, hSi, ?_, ?_⟩
    · rw [List.length_map, sizeLine_eq]
      omega
    have hTu : ∀ ys, upd H' S (.lst ys) T = some (.lst (nats (Vbceah.progress bs (order.take i)))) := fun ys => by rw [upd_ne nTS]; exact hTi
    have hSh5 : H' qs = some (.tup [.int sh.first, .int sh.second]) := s5 _ _ hSh
    have up : ∀ (G : Hp) (d : Addr) (xs ys : List V) (p : Addr) (x : Vbceah.Sheet), G d = some (.lst xs) → SheetAt G p x → SheetAt (upd G d (.lst ys)) p x := fun G d xs ys p x hd h => by
      have h' : G p = some (.tup [.int x.first, .int x.second]) := h
      show _ = some (HO.tup _)
      rw [upd_ne (ne_of h' hd (fun z => nomatch z))]
      exact h'
    refine ⟨_, rfl, _, rfl, T, _, n, _, rfl, rfl, .inl (.inl (hTu _)), hpg, _, _, rfl, rfl, ?_⟩
    refine ⟨T, _, _, n, rfl, rfl, hTu _, ?_, ?_⟩
    · unfold ixN
      rw [nats_len, progress_len, if_pos (by omega), if_pos (by omega), Int.toNat_natCast]
    refine ⟨_, ss ++ [qs], rfl, ?_, ?_, ?_, fun b o e => ?_⟩
    · have ec : (((order.take i).count n : Nat) : Int) + 1 = (((order.take i).count n + 1 : Nat) : Int) := by omega
      rw [upd_same, ep, ← nats_set1, ← ec]
    · rw [upd_ne (fun z => nTS z.symm), upd_same, List.map_append]
      rfl
    · rw [es]
      exact Paired.snoc (Paired.mapP hP fun p x hx => up _ _ _ _ _ _ (hTu _) (up _ _ _ _ _ _ hSi hx)) (up _ _ _ _ _ _ (hTu _) (up _ _ _ _ _ _ hSi hSh5))
    · rw [upd_ne (ne_of_none e hT0), upd_ne (ne_of_none e hS0)]
      exact s5 b o e
  · rintro σ H' ⟨v, ss, rfl, hTi, hSi, hP, s5⟩
    rw [nats_len, List.take_length] at hP
    exact ⟨_, rfl, k H' S s5 ⟨ss, hSi, hP⟩⟩
/-! ### hanging_place -/
def spHang : Sp := fun vs H Q _ => ∃ (ba oa : Addr) (bs : List Vbceah.Book) (order : List Nat) (n : Nat), vs = [.ref ba, .ref oa] ∧ BooksAt H ba bs ∧ OrderAt H oa order ∧ bs.length ≤ 1000 ∧ order.length ≤ 1000 ∧ Runs bs [] order ∧
  Vbceah.critical (Vbceah.sheetsOf bs order []) = some n ∧ ∀ H', Same H H' → Q (.int (n : Nat)) H'
abbrev sHang : Stmt := topS 19
abbrev nHang : List Str := ["books", "order", "sheets", "up_to_it", "from_it_on", "sums", "computed", "checked", "sheet"]
theorem scHang : FnScope nHang ["books", "order"] (C8.fnScope sHang) := C8.fnScope_by (by decide +kernel)
def paths (l : List Vbceah.Sheet) : List Nat := (List.range l.length).map (path l)
theorem paths_get {l : List Vbceah.Sheet} {i : Nat} (h : i < l.length) : (paths l)[i]? = some (path l i) := by
  unfold paths
  rw [List.getElem?_map, List.getElem?_range h]
  rfl
theorem paths_len (l : List Vbceah.Sheet) : (paths l).length = l.length := by
  unfold paths
  rw [List.length_map, List.length_range]
theorem F1_step {l : List Vbceah.Sheet} {i : Nat} {s : Vbceah.Sheet} (h : l[i]? = some s) : F1 (l.take (i + 1)) = F1 (l.take i) + s.first := by rw [take_get h, F1_snoc]
theorem F2_step {l : List Vbceah.Sheet} {i : Nat} {s : Vbceah.Sheet} (h : l[i]? = some s) : F2 (l.drop i) = s.second + F2 (l.drop (i + 1)) := by
  obtain ⟨h1, h2⟩ := List.getElem?_eq_some_iff.mp h
  rw [List.drop_eq_getElem_cons h1, h2]
  rfl
theorem cal_hang (h : Has K mg "hanging_place" ["books", "order"] sHang) (O : Own mg) (Sh : C8.Cal P w K mg base 1 "sheets_along" spSheets []) (Eo : C8.Cal P w K mg base 5 "end_of" spEndOf []) : C8.Cal P w K mg base 6 "hanging_place" spHang [] := by
  obtain ⟨f, fd, D, b⟩ := h
  refine C8.cal0 D b .nil scHang (fun vs H Q E h => ?_) fun cdv A outer s H vs Q E hr h => ⟨_,
    pss_cons (ps_set (i := 2) scHang.nd rfl (.inl rfl) (C8.pe_c Sh hr (by decide) (by rfl) (pa_cons (pv 0) (pa_cons (pv 1) pa_nil))))
    (pss_cons (ps_set (i := 3) scHang.nd rfl (.inl rfl) pe_int)
    (pss_cons (ps_set (i := 4) scHang.nd rfl (.inl rfl) (pe_callB (cr_sum rfl) (by rfl) O.sum (by decide +kernel) (pa_cons (pe_lc (own := [("sheet", 8)]) (g := gName 8) (by rfl) scHang.nd (pi_list (pv 2)) (blkOk_by (own := [("sheet", 8)]) (N := nHang) (sc := C8.fnScope sHang) (by decide +kernel))
      (fun _ _ _ _ _ => pg_name (i := 8) scHang.nd rfl (Or.inl rfl)) (fun _ _ _ _ _ => pts_nil) (fun _ _ _ _ _ => pe_ix (ix_tupK K) (pv 8) pe_int (fun _ _ => rfl))) pa_nil)))
    (pss_cons (ps_set (i := 5) scHang.nd rfl (.inl rfl) (pe_lst pa_nil))
    (pss_cons (ps_for PassesOwn.never rfl (pi_list (pv 2)) (pg_tup rfl (pgs_cons (pg_name (i := 6) scHang.nd rfl (.inl rfl)) (pgs_cons (pg_name (i := 7) scHang.nd rfl (.inl rfl)) pgs_nil)))
      (pss_cons (ps_aug (i := 3) scHang.nd rfl (.inl rfl) (pv 6) ip_add)
      (pss_cons (ps_expr (pe_bm PySem.F.plainAttrs_list PySem.F.slot_list_append PySem.F.type_list_append mt_append (pv 5) (pa_cons (pe_op op_add (pv 3) (pv 4)) pa_nil)))
      (pss_one (ps_aug (i := 4) scHang.nd rfl (.inl rfl) (pv 7) ip_sub)))))
    (pss_one (ps_ret (pe_bm PySem.F.plainAttrs_list PySem.F.slot_list_index PySem.F.type_list_index mt_index (pv 5) (pa_cons (C8.pe_c Eo hr (by decide) (by rfl) (pa_cons (pv 0) (pa_cons (pv 1) pa_nil))) pa_nil)))))))), ?_⟩
  · obtain ⟨ba, oa, bs, order, n, rfl, _⟩ := h
    rfl
  obtain ⟨ba, oa, bs, order, n, rfl, hB, hO, h4, ho, R, hcr, k⟩ := h
  have hsl := sheets_len R
  obtain ⟨c1, c2, c3⟩ := critical_some.mp hcr
  refine ⟨_, rfl, _, rfl, ba, oa, bs, order, rfl, hB, hO, h4, ho, R, fun H1 p g1 hS => ?_⟩
  generalize hL : Vbceah.sheetsOf bs order [] = l at hS hsl c1 c2 c3
  obtain ⟨ss, hp, hP⟩ := hS
  have el : ss.length = l.length := Paired.length hP
  refine ⟨_, rfl, p, rfl, ⟨_, .inl (.inl hp)⟩, fun D hD => lc_list (K := K) (a := p) (xs := ss.map V.ref) (fun i H' => Same H1 H' ∧ H' D = some (.lst (((l.map fun s => (s.second : Int)).take i).map V.int)))
    ⟨same_new hD, upd_same⟩ (fun i H' _ ⟨s5, _⟩ => s5.seq (.inl (.inl hp))) ?_ ?_⟩
  · rintro i x H' hi ⟨s5, hD'⟩
    obtain ⟨q, hpi, rfl⟩ := map_get hi
    obtain ⟨sh, hs, hsp⟩ := LstOf.at hP hpi
    have hsp' : H1 q = some (.tup [.int sh.first, .int sh.second]) := hsp
    refine ⟨rfl, _, rfl, q, _, 1, _, rfl, rfl, .inl (.inl (s5 _ _ hsp')), rfl, _, hD', ?_, same_upd s5 hD, ?_⟩
    · rw [List.length_map, List.length_take, List.length_map, sizeLine_eq]
      omega
    · have e : (l.map fun s => (s.second : Int))[i]? = some (sh.second : Int) := by rw [List.getElem?_map, hs]; rfl
      rw [upd_same, take_get e, List.map_append]
      rfl
  rintro H2 ⟨s5, hD'⟩
  rw [List.length_map, el, List.take_of_length_le (by rw [List.length_map]; exact Nat.le_refl _)] at hD'
  refine ⟨D, _, rfl, .inl (.inl hD'), ?_⟩
  rw [sumI]
  refine ⟨(by show 0 ≤ sizeLine; decide), fun U hU => ?_⟩
  have hU1 : H1 U = none := s5.free hU
  have sU := s5.trans (same_new (o := .lst []) hU)
  have hUU : upd H2 U (.lst []) U = some (.lst []) := upd_same
  generalize upd H2 U (.lst []) = H3 at sU hUU
  refine ⟨_, rfl, p, rfl, ⟨_, .inl (.inl (sU _ _ hp))⟩, for_list (K := K) (a := p) (xs := ss.map V.ref) (fun i σ H' => ∃ (a b : Int) (v6 v7 : Option V), σ = [some (.ref ba), some (.ref oa), some (.ref p), some (.int a), some (.int b), some (.ref U), v6, v7, none] ∧ a = (F1 (l.take i) : Nat) ∧ b = (F2 (l.drop i) : Nat) ∧
    H' U = some (.lst (nats ((paths l).take i))) ∧ ∀ b o, H1 b = some o → H' b = some o) ⟨_, _, none, none, rfl, rfl, rfl, hUU, sU⟩ (fun i σ H' _ ⟨_, _, _, _, _, _, _, _, s6⟩ => .inl (.inl (s6 _ _ hp))) ?_ ?_⟩
  · rintro i x σ H' hi ⟨a, b, v6, v7, rfl, ea, eb, hUi, s6⟩
    obtain ⟨q, hpi, rfl⟩ := map_get hi
    obtain ⟨sh, hs, hsp⟩ := LstOf.at hP hpi
    have hsp' : H1 q = some (.tup [.int sh.first, .int sh.second]) := hsp
    have hil : i < l.length := (List.getElem?_eq_some_iff.mp hs).1
    have f1 := F1_step hs
    have f2 := F2_step hs
    refine ⟨q, _, rfl, .inl (.inl (s6 _ _ hsp')), rfl, _, _, rfl, _, _, rfl, rfl, ?_⟩
    refine ⟨_, rfl, _, rfl, _, _, rfl, rfl, ?_⟩
    refine ⟨_, rfl, .inl ⟨rfl, _, .inl (.inl hUi)⟩, _, rfl, _, rfl, _, _, rfl, rfl, U, _, _, rfl, rfl, hUi, ?_, ?_⟩
    · rw [nats_len, List.length_take, paths_len, sizeLine_eq]
      omega
    refine ⟨_, rfl, _, rfl, _, _, rfl, rfl, ?_⟩
    refine ⟨a + sh.first, b - sh.second, _, _, rfl, by omega, by omega, ?_, fun c o e => ?_⟩
    · have e : a + (sh.first : Int) + b = ((path l i : Nat) : Int) := by
        unfold path
        omega
      rw [upd_same, take_get (paths_get hil), nats_append]
      dsimp only
      rw [e]
      rfl
    · rw [upd_ne (ne_of_none e hU1)]
      exact s6 c o e
  · rintro σ H' ⟨a, b, v6, v7, rfl, ea, eb, hUi, s6⟩
    rw [List.length_map, el, List.take_of_length_le (by rw [paths_len]; exact Nat.le_refl _)] at hUi
    have s7 : Same H H' := Same.trans g1 s6
    refine ⟨_, rfl, .inl ⟨rfl, _, .inl (.inl hUi)⟩, _, rfl, _, rfl, ba, oa, bs, order, rfl, BooksAt.stays _ _ _ _ s7 hB, OrderAt.stays _ _ _ _ s7 hO, h4, ho, R, fun H4 g4 => ?_⟩
    rw [hL]
    refine ⟨U, nats (paths l), _, n, _, rfl, rfl, .inl (.inl (g4 _ _ hUi)), rfl, ?_, nats_get (paths_get c1), ?_, fun m z hm hz => ?_, k H4 (s7.trans g4)⟩
    · rw [List.all_eq_true]
      intro z hz
      obtain ⟨m, _, rfl⟩ := List.mem_map.mp hz
      rfl
    · rw [c2]
      show ((_ : Int) == _) = true
      rw [beq_self_eq_true]
    · rw [nats_get (paths_get (by omega : m < l.length))] at hz
      have ez := (Option.some.inj hz).symm
      subst ez
      show (((path l m : Nat) : Int) == _) = false
      rw [beq_eq_false_iff_ne]
      exact fun q => c3 m hm (Int.ofNat_inj.mp q)
end
end Rm

set_option Elab.async false
set_option linter.all false
set_option maxRecDepth 100000
set_option maxHeartbeats 4000000
/-! Workings of a number. -/
namespace Rm
open PySem PySem.Spec PyProof.Rows L2
def seenK (l : List Int) : List (L2.Key × V) := l.map fun v => (Sum.inl v, V.bl true)
theorem seen_any (l : List Int) (a : Int) : ((seenK l).any fun kv => decide (kv.1 = Sum.inl a)) = decide (a ∈ l) := by
  induction l with
  | nil => rfl
  | cons b l ih =>
    have e : seenK (b :: l) = (Sum.inl b, V.bl true) :: seenK l := rfl
    rw [e, List.any_cons, ih]
    by_cases c : b = a
    · subst c
      simp
    · have c1 : ¬ ((Sum.inl b : L2.Key) = Sum.inl a) := fun z => c (Sum.inl.inj z)
      have c2 : ¬ a = b := fun z => c z.symm
      simp [c1, c2]
theorem seen_put (l : List Int) (a : Int) : putK (seenK l) (Sum.inl a) (V.bl true) = seenK (if a ∈ l then l else l ++ [a]) := by
  have h := seen_any l a
  by_cases c : a ∈ l
  · rw [if_pos c]
    rw [decide_eq_true c] at h
    have e : putK (seenK l) (Sum.inl a) (V.bl true) = (seenK l).map fun kv => if kv.1 = Sum.inl a then (kv.1, V.bl true) else kv := by
      unfold putK
      first | rw [if_pos h] | simp only [h, if_true]
    rw [e]
    unfold seenK
    rw [List.map_map]
    refine List.map_congr_left fun v _ => ?_
    show (if (Sum.inl v : L2.Key) = Sum.inl a then _ else _) = _
    split <;> rfl
  · rw [if_neg c]
    rw [decide_eq_false c] at h
    rw [putK_new _ (by rw [valV_any] at h; exact Option.isNone_iff_eq_none.mp (by rw [← Option.not_isSome, h]; rfl))]
    unfold seenK
    rw [List.map_append]
    rfl
theorem kinds_step {ns : List Int} {i : Nat} {n : Int} (h : ns[i]? = some n) : Vbceah.kinds (ns.take (i + 1)) = if n ∈ Vbceah.kinds (ns.take i) then Vbceah.kinds (ns.take i) else Vbceah.kinds (ns.take i) ++ [n] := by
  rw [take_get h, kinds_snoc]
  by_cases c : n ∈ ns.take i
  · rw [if_pos c, if_pos (kinds_mem.mpr c)]
  · rw [if_neg c, if_neg (fun z => c (kinds_mem.mp z))]
theorem iv_append (l m : List Int) : iv (l ++ m) = iv l ++ iv m := List.map_append
section
variable {P : Program} {w : World} {K : PySem.W.Frag} {mg : Str → Option Value} {base : Heap}
def spOnce : Sp := fun vs H Q _ => ∃ (na : Addr) (ns : List Int), vs = [.ref na] ∧ H na = some (.lst (iv ns)) ∧ ns.length ≤ 1000 ∧ ∀ H' p, Same H H' → H p = none → H' p = some (.lst (iv (Vbceah.kinds ns))) → Q (.ref p) H'
abbrev sOnce : Stmt := topS 21
theorem scOnce : FnScope ["workings", "seen", "number"] ["workings"] (C8.fnScope sOnce) := C8.fnScope_by (by decide +kernel)
theorem cal_once (h : Has K mg "told_once" ["workings"] sOnce) (ls : mg "list" = none) : C8.Cal P w K mg base 1 "told_once" spOnce [] := by
  obtain ⟨f, fd, D, b⟩ := h
  refine C8.cal0 D b .nil scOnce (fun vs H Q E h => ?_) fun cdv A outer s H vs Q E hr h => ⟨_,
    pss_cons (ps_set (i := 1) scOnce.nd rfl (.inl rfl) pe_dnewK)
    (pss_cons (ps_for PassesOwn.never rfl (pi_list (pv 0)) (pg_name (i := 2) scOnce.nd rfl (.inl rfl))
      (pss_one (ps_dput (hu_of hr) (pv 1) (pv 2) pe_bl rfl)))
    (pss_one (ps_ret (pe_callTy (call_list_dK rfl) (by rfl) ls (by decide +kernel) (pa_cons (pv 1) pa_nil))))), ?_⟩
  · obtain ⟨na, ns, rfl, _⟩ := h
    rfl
  obtain ⟨na, ns, rfl, hN, hz, k⟩ := h
  refine fun S hS => ?_
  have s1 := same_new (o := .dK []) hS
  refine ⟨_, rfl, na, rfl, ⟨_, .inl (.inl (s1 _ _ hN))⟩, for_list (K := K) (a := na) (xs := iv ns) (fun i σ H' => ∃ v : Option V, σ = [some (.ref na), some (.ref S), v] ∧ H' S = some (.dK (seenK (Vbceah.kinds (ns.take i)))) ∧ ∀ b o, H b = some o → H' b = some o)
    ⟨none, rfl, upd_same, s1⟩ (fun i σ H' _ ⟨_, _, _, s5⟩ => .inl (.inl (s5 _ _ hN))) ?_ ?_⟩
  · rintro i x σ H' hi ⟨v, rfl, hSi, s5⟩
    obtain ⟨n, hn, rfl⟩ := map_get hi
    have hlen : (seenK (Vbceah.kinds (ns.take i))).length < sizeLine := by
      have := kinds_le (ns.take i)
      rw [List.length_take] at this
      unfold seenK
      rw [List.length_map, sizeLine_eq]
      omega
    refine ⟨_, rfl, _, rfl, S, _, rfl, DPut.k (k := Sum.inl n) hSi hlen, ?_⟩
    refine ⟨_, rfl, ?_, fun b o e => ?_⟩
    · rw [upd_same, seen_put, kinds_step hn]
    · rw [upd_ne (ne_of_none e hS)]
      exact s5 b o e
  · rintro σ H' ⟨v, rfl, hSi, s5⟩
    rw [iv_len, List.take_length] at hSi
    refine ⟨_, rfl, S, _, rfl, hSi, fun q hq => ?_⟩
    refine k _ q (fun b o e => same_new hq _ _ (s5 b o e)) (Same.free s5 hq) ?_
    rw [upd_same]
    unfold seenK iv
    rw [List.map_map]
    rfl
/-! ### slips_beside -/
def spSlips : Sp := fun vs H Q _ => ∃ (na : Addr) (n : Int) (ns : List Int), vs = [.int n, .ref na] ∧ H na = some (.lst (iv ns)) ∧ ∀ H', Same H H' → Q (.int ((ns.length - ns.count n : Nat) : Int)) H'
abbrev sSlips : Stmt := topS 22
theorem scSlips : FnScope ["number", "workings"] ["number", "workings"] (C8.fnScope sSlips) := C8.fnScope_by (by decide +kernel)
theorem cal_slips (h : Has K mg "slips_beside" ["number", "workings"] sSlips) (O : Own mg) : C8.Cal P w K mg base 1 "slips_beside" spSlips [] := by
  obtain ⟨f, fd, D, b⟩ := h
  refine C8.cal0 D b .nil scSlips (fun vs H Q E h => ?_) fun cdv A outer s H vs Q E hr h => ⟨_,
    pss_one (ps_ret (pe_op op_sub (pe_callB call_len_seq (by rfl) O.len PySem.boot_len (pa_cons (pv 1) pa_nil)) (pe_bm PySem.F.plainAttrs_list PySem.F.slot_list_count PySem.F.type_list_count mt_lcount (pv 1) (pa_cons (pv 0) pa_nil)))), ?_⟩
  · obtain ⟨na, n, ns, rfl, _⟩ := h
    rfl
  obtain ⟨na, n, ns, rfl, hN, k⟩ := h
  refine ⟨_, rfl, na, _, rfl, .inl (.inl (.inl hN)), _, rfl, .inl ⟨rfl, _, .inl (.inl hN)⟩, _, rfl, na, ns, n, rfl, rfl, .inl (.inl hN), _, _, rfl, rfl, ?_⟩
  have q := k H (Same.refl H)
  have c := List.count_le_length (a := n) (l := ns)
  have e : ((iv ns).length : Int) - (ns.count n : Nat) = ((ns.length - ns.count n : Nat) : Int) := by
    rw [iv_len]
    omega
  rw [← e] at q
  exact q
/-! ### what can be right -/
def spCan : Sp := fun vs H Q _ => ∃ (na : Addr) (t : Nat) (ns : List Int), vs = [.int t, .ref na] ∧ H na = some (.lst (iv ns)) ∧ ns.length ≤ 1000 ∧ ∀ H' p, Same H H' → H p = none → H' p = some (.lst (iv (Vbceah.candidates t ns))) → Q (.ref p) H'
abbrev sCan : Stmt := topS 23
abbrev nCan : List Str := ["borne", "workings", "number"]
theorem scCan : FnScope nCan ["borne", "workings"] (C8.fnScope sCan) := C8.fnScope_by (by decide +kernel)
theorem cal_can (h : Has K mg "told_that_can_be_right" ["borne", "workings"] sCan) (On : C8.Cal P w K mg base 1 "told_once" spOnce []) (Sl : C8.Cal P w K mg base 1 "slips_beside" spSlips []) : C8.Cal P w K mg base 2 "told_that_can_be_right" spCan [] := by
  obtain ⟨f, fd, D, b⟩ := h
  refine C8.cal0 D b .nil scCan (fun vs H Q E h => ?_) fun cdv A outer s H vs Q E hr h => ⟨_,
    pss_one (ps_ret (pe_lc (own := [("number", 2)]) (g := gName 2) (by rfl) scCan.nd (pi_list (C8.pe_c On hr (by decide) (by rfl) (pa_cons (pv 1) pa_nil))) (blkOk_by (own := [("number", 2)]) (N := nCan) (sc := C8.fnScope sCan) (by decide +kernel))
      (fun _ _ _ _ _ => pg_name (i := 2) scCan.nd rfl (Or.inl rfl)) (fun _ _ _ _ _ => pts_one (pt_cmpR op_le (C8.pe_c Sl hr (by decide) (by rfl) (pa_cons (pv 2) (pa_cons (pv 1) pa_nil))) (pv 0) (nomark _))) (fun _ _ _ _ _ => pv 2))), ?_⟩
  · obtain ⟨na, t, ns, rfl, _⟩ := h
    rfl
  obtain ⟨na, t, ns, rfl, hN, hz, k⟩ := h
  refine ⟨_, rfl, na, ns, rfl, hN, hz, fun H1 p g1 n1 e1 => ?_⟩
  have hk := kinds_le ns
  refine ⟨p, rfl, ⟨_, .inl (.inl e1)⟩, fun D hD => lc_list (K := K) (a := p) (xs := iv (Vbceah.kinds ns)) (fun i H' => Same H1 H' ∧ H' D = some (.lst (iv (((Vbceah.kinds ns).take i).filter (Vbceah.possible t ns))))) ⟨same_new hD, upd_same⟩ (fun i H' _ ⟨s5, _⟩ => s5.seq (.inl (.inl e1))) ?_ ?_⟩
  · rintro i x H' hi ⟨s5, hD'⟩
    obtain ⟨n, hn, rfl⟩ := map_get hi
    refine ⟨rfl, _, rfl, _, rfl, na, n, ns, rfl, s5 _ _ (g1 _ _ hN), fun H2 g2 => ?_⟩
    have hD2 := g2 _ _ hD'
    have s6 := s5.trans g2
    have e : Vbceah.possible t ns n = decide (((ns.length - ns.count n : Nat) : Int) ≤ (t : Int)) := by
      unfold Vbceah.possible
      exact decide_eq_decide.mpr (by omega)
    refine ⟨_, rfl, _, _, rfl, rfl, _, rfl, ifB (fun c => ?_) fun c => ?_⟩
    · refine ⟨_, rfl, _, hD2, ?_, same_upd s6 hD, ?_⟩
      · have := List.length_filter_le (Vbceah.possible t ns) ((Vbceah.kinds ns).take i)
        rw [List.length_take] at this
        rw [iv_len, sizeLine_eq]
        omega
      · rw [upd_same, take_get hn, List.filter_append, List.filter_cons_of_pos (by rw [e]; exact c), iv_append]
        rfl
    · refine ⟨s6, ?_⟩
      rw [take_get hn, List.filter_append, List.filter_cons_of_neg (by rw [e]; exact Bool.eq_false_iff.mp c), List.filter_nil, List.append_nil]
      exact hD2
  · rintro H' ⟨s5, hD'⟩
    rw [iv_len, List.take_length] at hD'
    exact k H' D (g1.trans s5) (g1.free hD) hD'
def spUntold : Sp := fun vs H Q _ => ∃ (na : Addr) (t : Nat) (ns : List Int), vs = [.int t, .ref na] ∧ H na = some (.lst (iv ns)) ∧ ∀ H', Same H H' → Q (.bl (decide (ns.length ≤ t))) H'
abbrev sUntold : Stmt := topS 24
theorem scUntold : FnScope ["borne", "workings"] ["borne", "workings"] (C8.fnScope sUntold) := C8.fnScope_by (by decide +kernel)
theorem cal_untold (h : Has K mg "untold_can_be_right" ["borne", "workings"] sUntold) (O : Own mg) : C8.Cal P w K mg base 1 "untold_can_be_right" spUntold [] := by
  obtain ⟨f, fd, D, b⟩ := h
  refine C8.cal0 D b .nil scUntold (fun vs H Q E h => ?_) fun cdv A outer s H vs Q E hr h => ⟨_,
    pss_one (ps_ret (pe_cmpR op_le (pe_callB call_len_seq (by rfl) O.len PySem.boot_len (pa_cons (pv 1) pa_nil)) (pv 0) (nomark _))), ?_⟩
  · obtain ⟨na, t, ns, rfl, _⟩ := h
    rfl
  obtain ⟨na, t, ns, rfl, hN, k⟩ := h
  refine ⟨_, rfl, na, _, rfl, .inl (.inl (.inl hN)), _, rfl, _, _, rfl, rfl, ?_⟩
  have q := k H (Same.refl H)
  have e : decide (ns.length ≤ t) = decide (((iv ns).length : Int) ≤ (t : Int)) := by
    rw [iv_len]
    exact decide_eq_decide.mpr (by omega)
  rw [e] at q
  exact q
/-! ### verdict -/
def spVerdict : Sp := fun vs H Q _ => ∃ (na : Addr) (t : Nat) (ns : List Int), vs = [.int t, .ref na] ∧ H na = some (.lst (iv ns)) ∧ ns.length ≤ 1000 ∧ ∀ H', Same H H' → Q (.int (Vbceah.verdict t ns : Nat)) H'
abbrev sVerdict : Stmt := topS 25
theorem scVerdict : FnScope ["borne", "workings", "right"] ["borne", "workings"] (C8.fnScope sVerdict) := C8.fnScope_by (by decide +kernel)
theorem cal_verdict (h : Has K mg "verdict" ["borne", "workings"] sVerdict) (O : Own mg) (Un : C8.Cal P w K mg base 1 "untold_can_be_right" spUntold []) (Ca : C8.Cal P w K mg base 2 "told_that_can_be_right" spCan []) : C8.Cal P w K mg base 3 "verdict" spVerdict [] := by
  obtain ⟨f, fd, D, b⟩ := h
  refine C8.cal0 D b .nil scVerdict (fun vs H Q E h => ?_) fun cdv A outer s H vs Q E hr h => ⟨_,
    pss_cons (ps_if (pt_val (C8.pe_c Un hr (by decide) (by rfl) (pa_cons (pv 0) (pa_cons (pv 1) pa_nil)))) (pss_one (ps_ret pe_int)) pss_nil)
    (pss_cons (ps_set (i := 2) scVerdict.nd rfl (.inl rfl) (C8.pe_c Ca hr (by decide) (by rfl) (pa_cons (pv 0) (pa_cons (pv 1) pa_nil))))
    (pss_cons (ps_if (pt_cmpR op_eq (pe_callB call_len_seq (by rfl) O.len PySem.boot_len (pa_cons (pv 2) pa_nil)) pe_int (nomark _)) (pss_one (ps_ret pe_int)) pss_nil)
    (pss_one (ps_ret (pe_callTy call_int1 (by rfl) O.int (by decide +kernel) (pa_cons (pe_cmpR op_eq (pe_callB call_len_seq (by rfl) O.len PySem.boot_len (pa_cons (pv 2) pa_nil)) pe_int (nomark _)) pa_nil)))))), ?_⟩
  · obtain ⟨na, t, ns, rfl, _⟩ := h
    rfl
  obtain ⟨na, t, ns, rfl, hN, hz, k⟩ := h
  rw [verdict_eq] at k
  refine ⟨_, rfl, _, rfl, na, t, ns, rfl, hN, fun H1 g1 => ⟨_, rfl, ?_⟩⟩
  by_cases c : ns.length ≤ t
  · rw [decide_eq_true c]
    rw [if_pos c] at k
    exact iteT (k H1 g1)
  rw [decide_eq_false c]
  rw [if_neg c] at k
  refine iteF ?_
  refine ⟨_, rfl, _, rfl, na, t, ns, rfl, g1 _ _ hN, hz, fun H2 p g2 n2 e2 => ?_⟩
  have g12 := g1.trans g2
  generalize Vbceah.candidates t ns = cs at e2 k
  refine ⟨_, rfl, p, _, rfl, .inl (.inl (.inl e2)), rfl, _, rfl, ifB (fun c1 => ?_) fun c1 => ?_⟩
  · have c1' : cs.length = 0 := by
      have e := V.int.inj (of_decide_eq_true c1)
      rw [iv_len] at e
      omega
    rw [if_pos c1'] at k
    exact k H2 g12
  · have c1' : ¬ cs.length = 0 := fun z => of_decide_eq_false c1 (by rw [iv_len, z]; rfl)
    rw [if_neg c1'] at k
    refine ⟨_, rfl, p, _, rfl, .inl (.inl (.inl e2)), rfl, .inr ⟨_, rfl, ?_⟩⟩
    have q := k H2 g12
    rw [iv_len]
    by_cases c2 : cs.length = 1
    · rw [if_pos c2] at q
      have e : decide (V.int ((cs.length : Nat) : Int) = V.int 1) = true := decide_eq_true (by rw [c2]; rfl)
      rw [e]
      exact q
    · rw [if_neg c2] at q
      have e : decide (V.int ((cs.length : Nat) : Int) = V.int 1) = false := decide_eq_false fun z => c2 (by have := V.int.inj z; omega)
      rw [e]
      exact q
end
end Rm

set_option Elab.async false
set_option linter.all false
set_option maxRecDepth 100000
set_option maxHeartbeats 4000000
/-! How many workings more. -/
namespace Rm
open PySem PySem.Spec PyProof.Rows L2
def slipsI (ns : List Int) : List Int := (Vbceah.kinds ns).map fun v => ((ns.length - ns.count v : Nat) : Int)
theorem slips_len (ns : List Int) : (slipsI ns).length = (Vbceah.kinds ns).length := List.length_map _
/-- from the slips in their order to the counts -/
theorem slips_top {ns l : List Int} (pm : l.Perm (slipsI ns ++ [(ns.length : Int), (ns.length : Int)])) (sr : l.Pairwise (· ≤ ·)) :
    ∃ (c1 c2 : Nat) (r : List Nat) (rest : List Int), l = ((ns.length - c1 : Nat) : Int) :: ((ns.length - c2 : Nat) : Int) :: rest ∧ Top2 ns c1 c2 r ∧ c1 ≤ ns.length ∧ c2 ≤ ns.length := by
  have hlen := pm.length_eq
  rw [List.length_append, slips_len] at hlen
  have mem : ∀ x ∈ l, ∃ c : Nat, c ≤ ns.length ∧ x = ((ns.length - c : Nat) : Int) := fun x hx => by
    rcases List.mem_append.mp (pm.mem_iff.mp hx) with h | h
    · obtain ⟨v, _, rfl⟩ := List.mem_map.mp h
      exact ⟨ns.count v, List.count_le_length, rfl⟩
    · have e : x = (ns.length : Int) := by
        rcases List.mem_cons.mp h with h | h
        · exact h
        · exact List.mem_singleton.mp h
      exact ⟨0, Nat.zero_le _, by rw [e]; rfl⟩
  have pc := pm.map fun x => ns.length - x.toNat
  have e1 : (slipsI ns ++ [(ns.length : Int), (ns.length : Int)]).map (fun x => ns.length - x.toNat) = counts ns ++ [0, 0] := by
    unfold slipsI counts
    rw [List.map_append, List.map_map]
    congr 1
    · refine List.map_congr_left fun v _ => ?_
      have := List.count_le_length (a := v) (l := ns)
      show ns.length - (((ns.length - ns.count v : Nat) : Int)).toNat = _
      omega
    · show [ns.length - ((ns.length : Nat) : Int).toNat, ns.length - ((ns.length : Nat) : Int).toNat] = [0, 0]
      rw [Int.toNat_natCast, Nat.sub_self]
  rw [e1] at pc
  have ps : (l.map fun x => ns.length - x.toNat).Pairwise (· ≥ ·) := by
    rw [List.pairwise_map]
    refine sr.imp fun {a b} h => ?_
    show ns.length - b.toNat ≤ ns.length - a.toNat
    omega
  match l, hlen, mem, pc, ps with
  | [], h, _, _, _ => exact absurd h (by simp)
  | [_], h, _, _, _ => simp at h
  | a :: b :: rest, _, mem, pc, ps =>
    obtain ⟨c1, h1, rfl⟩ := mem a (.head _)
    obtain ⟨c2, h2, rfl⟩ := mem b (.tail _ (.head _))
    have f1 : ns.length - (((ns.length - c1 : Nat) : Int)).toNat = c1 := by omega
    have f2 : ns.length - (((ns.length - c2 : Nat) : Int)).toNat = c2 := by omega
    rw [List.map_cons, List.map_cons, f1, f2] at pc ps
    refine ⟨c1, c2, _, rest, rfl, top2_down (pc.trans ?_).symm ps, h1, h2⟩
    exact (List.perm_append_comm (l₁ := counts ns) (l₂ := [0, 0]))
def moreRow (t : Nat) (ns : List Int) : List Int := match Vbceah.atBest t ns with
  | none => [0]
  | some k => [1, (k : Int), (Vbceah.atWorst t ns : Int)]
section
variable {P : Program} {w : World} {K : PySem.W.Frag} {mg : Str → Option Value} {base : Heap}
def spTwo : Sp := fun vs H Q _ => ∃ (na : Addr) (ns : List Int), vs = [.ref na] ∧ H na = some (.lst (iv ns)) ∧ ns.length ≤ 1000 ∧
  ∀ H' p (c1 c2 : Nat) (r : List Nat), Same H H' → Top2 ns c1 c2 r → c1 ≤ ns.length → c2 ≤ ns.length → H' p = some (.tup [.int ((ns.length - c1 : Nat) : Int), .int ((ns.length - c2 : Nat) : Int)]) → Q (.ref p) H'
abbrev sTwo : Stmt := topS 26
abbrev nTwo : List Str := ["workings", "slips", "least", "second", "number"]
theorem scTwo : FnScope nTwo ["workings"] (C8.fnScope sTwo) := C8.fnScope_by (by decide +kernel)
theorem cal_two (h : Has K mg "two_least_slips" ["workings"] sTwo) (O : Own mg) (so : mg "sorted" = none) (On : C8.Cal P w K mg base 1 "told_once" spOnce []) (Sl : C8.Cal P w K mg base 1 "slips_beside" spSlips []) : C8.Cal P w K mg base 2 "two_least_slips" spTwo [] := by
  obtain ⟨f, fd, D, b⟩ := h
  refine C8.cal0 D b .nil scTwo (fun vs H Q E h => ?_) fun cdv A outer s H vs Q E hr h => ⟨_,
    pss_cons (ps_setLc (i := 1) (own := [("number", 4)]) (g := gName 4) (by rfl) scTwo.nd rfl rfl (sw_true rfl rfl rfl (by decide +kernel)) (pi_list (C8.pe_c On hr (by decide) (by rfl) (pa_cons (pv 0) pa_nil))) (blkOk_by (own := [("number", 4)]) (N := nTwo) (sc := C8.fnScope sTwo) (by decide +kernel))
      (fun _ _ _ _ _ => pg_name (i := 4) scTwo.nd rfl (Or.inl rfl)) (fun _ _ _ _ _ => pts_nil) (fun _ _ _ _ _ => C8.pe_c Sl hr (by decide) (by rfl) (pa_cons (pv 4) (pa_cons (pv 0) pa_nil))))
    (pss_cons (ps_asg (pe_slice sl_list (pe_callB cr_sortedI (by rfl) so (by decide +kernel) (pa_cons (pe_op op_cat (pv 1) (pe_lst (pa_cons (pe_callB call_len_seq (by rfl) O.len PySem.boot_len (pa_cons (pv 0) pa_nil)) (pa_cons (pe_callB call_len_seq (by rfl) O.len PySem.boot_len (pa_cons (pv 0) pa_nil)) pa_nil)))) pa_nil)) po_none (po_some pe_int))
      (pg_lst rfl (pgs_cons (pg_name (i := 2) scTwo.nd rfl (.inl rfl)) (pgs_cons (pg_name (i := 3) scTwo.nd rfl (.inl rfl)) pgs_nil))))
    (pss_one (ps_ret (pe_tup (pa_cons (pv 2) (pa_cons (pv 3) pa_nil)))))), ?_⟩
  · obtain ⟨na, ns, rfl, _⟩ := h
    rfl
  obtain ⟨na, ns, rfl, hN, hz, k⟩ := h
  have hk := kinds_le ns
  refine ⟨_, rfl, na, ns, rfl, hN, hz, fun H1 p g1 n1 e1 => ?_⟩
  refine ⟨p, rfl, ⟨_, .inl (.inl e1)⟩, fun D hD => lc_list (K := K) (a := p) (xs := iv (Vbceah.kinds ns)) (fun i H' => Same H1 H' ∧ H' D = some (.lst (iv ((slipsI ns).take i)))) ⟨same_new hD, upd_same⟩ (fun i H' _ ⟨s5, _⟩ => s5.seq (.inl (.inl e1))) ?_ ?_⟩
  · rintro i x H' hi ⟨s5, hD'⟩
    obtain ⟨n, hn, rfl⟩ := map_get hi
    refine ⟨rfl, _, rfl, _, rfl, na, n, ns, rfl, s5 _ _ (g1 _ _ hN), fun H2 g2 => ?_⟩
    refine ⟨_, g2 _ _ hD', ?_, same_upd (s5.trans g2) hD, ?_⟩
    · rw [iv_len, List.length_take, slips_len, sizeLine_eq]
      omega
    · have e : (slipsI ns)[i]? = some ((ns.length - ns.count n : Nat) : Int) := by
        unfold slipsI
        rw [List.getElem?_map, hn]
        rfl
      rw [upd_same, take_get e, iv_append]
      rfl
  rintro H2 ⟨s5, hD2⟩
  rw [iv_len, ← slips_len, List.take_length] at hD2
  have s6 := g1.trans s5
  have hN2 := s6 _ _ hN
  refine ⟨_, rfl, _, rfl, na, _, rfl, .inl (.inl (.inl hN2)), _, rfl, na, _, rfl, .inl (.inl (.inl hN2)), (by show 2 ≤ sizeLine; decide), fun t ht => ?_⟩
  rw [iv_len]
  have st := same_new (o := .lst [V.int (ns.length : Int), V.int (ns.length : Int)]) ht
  refine ⟨D, t, _, _, rfl, rfl, st _ _ hD2, upd_same, ?_, fun q hq => ?_⟩
  · rw [iv_len, slips_len, sizeLine_eq]
    show _ + 2 ≤ _
    omega
  have sq := st.trans (same_new (o := .lst (iv (slipsI ns) ++ [V.int (ns.length : Int), V.int (ns.length : Int)])) hq)
  have hqq : upd (upd H2 t (.lst [V.int (ns.length : Int), V.int (ns.length : Int)])) q (.lst (iv (slipsI ns) ++ [V.int (ns.length : Int), V.int (ns.length : Int)])) q = some (.lst ((slipsI ns ++ [(ns.length : Int), (ns.length : Int)]).map V.int)) := by
    rw [upd_same, List.map_append]
    rfl
  generalize upd (upd H2 t (.lst [V.int (ns.length : Int), V.int (ns.length : Int)])) q (.lst (iv (slipsI ns) ++ [V.int (ns.length : Int), V.int (ns.length : Int)])) = H3 at sq hqq
  refine ⟨q, _, rfl, .inl (.inl hqq), fun l p2 pm sr hp2 => ?_⟩
  obtain ⟨c1, c2, r, rest, rfl, T, h1, h2⟩ := slips_top pm sr
  have s7 := sq.trans (same_new (o := .lst (((((ns.length - c1 : Nat) : Int) :: ((ns.length - c2 : Nat) : Int) :: rest)).map V.int)) hp2)
  have hpp : upd H3 p2 (.lst (((((ns.length - c1 : Nat) : Int) :: ((ns.length - c2 : Nat) : Int) :: rest)).map V.int)) p2 = some (.lst (((((ns.length - c1 : Nat) : Int) :: ((ns.length - c2 : Nat) : Int) :: rest)).map V.int)) := upd_same
  generalize upd H3 p2 (.lst (((((ns.length - c1 : Nat) : Int) :: ((ns.length - c2 : Nat) : Int) :: rest)).map V.int)) = H4 at s7 hpp
  refine ⟨_, rfl, p2, _, rfl, .inl (.inl hpp), fun u hu => ?_⟩
  have ec : cutV ((((ns.length - c1 : Nat) : Int) :: ((ns.length - c2 : Nat) : Int) :: rest).map V.int) none (some 2) = [.int ((ns.length - c1 : Nat) : Int), .int ((ns.length - c2 : Nat) : Int)] :=
    cut_to (xs := (((ns.length - c1 : Nat) : Int) :: ((ns.length - c2 : Nat) : Int) :: rest).map V.int) (k := 2) (by rw [List.length_map]; exact Nat.succ_le_succ (Nat.succ_le_succ (Nat.zero_le _)))
  rw [ec]
  refine ⟨u, _, rfl, .inl (.inl upd_same), rfl, _, _, rfl, _, _, rfl, rfl, ?_⟩
  refine ⟨_, rfl, _, rfl, (by show 2 ≤ sizeLine; decide), fun v hv => ?_⟩
  exact k _ v c1 c2 r ((s6.trans s7).trans ((same_new hu).trans (same_new hv))) T h1 h2 upd_same
/-! ### more_workings -/
def spMoreW : Sp := fun vs H Q _ => ∃ (na : Addr) (t : Nat) (ns : List Int), vs = [.int t, .ref na] ∧ H na = some (.lst (iv ns)) ∧ ns.length ≤ 1000 ∧ t ≤ 10 ∧ ∀ H' p, Same H H' → H p = none → H' p = some (.lst (iv (moreRow t ns))) → Q (.ref p) H'
abbrev sMoreW : Stmt := topS 27
theorem scMoreW : FnScope ["borne", "workings", "least", "second"] ["borne", "workings"] (C8.fnScope sMoreW) := C8.fnScope_by (by decide +kernel)
theorem cal_moreW (h : Has K mg "more_workings" ["borne", "workings"] sMoreW) (Tw : C8.Cal P w K mg base 2 "two_least_slips" spTwo []) : C8.Cal P w K mg base 3 "more_workings" spMoreW [] := by
  obtain ⟨f, fd, D, b⟩ := h
  refine C8.cal0 D b .nil scMoreW (fun vs H Q E h => ?_) fun cdv A outer s H vs Q E hr h => ⟨_,
    pss_cons (ps_asg (C8.pe_c Tw hr (by decide) (by rfl) (pa_cons (pv 1) pa_nil)) (pg_tup rfl (pgs_cons (pg_name (i := 2) scMoreW.nd rfl (.inl rfl)) (pgs_cons (pg_name (i := 3) scMoreW.nd rfl (.inl rfl)) pgs_nil))))
    (pss_cons (ps_if (pt_cmpR op_gt (pv 2) (pv 0) (nomark _)) (pss_one (ps_ret (pe_lst (pa_cons pe_int pa_nil)))) pss_nil)
    (pss_cons (ps_if (pt_cmpR op_gt (pv 3) (pv 0) (nomark _)) (pss_one (ps_ret (pe_lst (pa_cons pe_int (pa_cons pe_int (pa_cons pe_int pa_nil)))))) pss_nil)
    (pss_one (ps_ret (pe_lst (pa_cons pe_int (pa_cons (pe_op op_sub (pe_op op_add (pv 0) pe_int) (pv 3)) (pa_cons (pe_op op_add (pe_op op_sub (pe_op op_sub (pe_op op_mul pe_int (pv 0)) (pv 2)) (pv 3)) pe_int) pa_nil)))))))), ?_⟩
  · obtain ⟨na, t, ns, rfl, _⟩ := h
    rfl
  obtain ⟨na, t, ns, rfl, hN, hz, ht, k⟩ := h
  refine ⟨_, rfl, na, ns, rfl, hN, hz, fun H1 p c1 c2 r g1 T h1 h2 e1 => ?_⟩
  have fin : ∀ l : List Int, moreRow t ns = l → ∀ q, H1 q = none → Q (.ref q) (upd H1 q (.lst (iv l))) := fun l e q hq => k _ q (same_upd g1 (g1.free hq)) (g1.free hq) (by rw [upd_same, e])
  have er : moreRow t ns = if ns.length - c1 ≤ t then [1, ((t + 1 + c2 - ns.length : Nat) : Int), ((if ns.length - c2 ≤ t then 2 * t + 1 + c1 + c2 - 2 * ns.length else 0 : Nat) : Int)] else [0] := by
    unfold moreRow
    rw [best_is T, worst_is T]
    by_cases c : ns.length - c1 ≤ t
    · rw [if_pos c, if_pos c]
    · rw [if_neg c, if_neg c]
  refine ⟨p, _, rfl, .inl (.inl e1), rfl, _, _, rfl, _, _, rfl, rfl, ?_⟩
  refine ⟨_, rfl, _, rfl, _, _, rfl, rfl, _, rfl, ifB (fun c => ?_) fun c => ?_⟩
  · have c' : ¬ ns.length - c1 ≤ t := by
      have e := of_decide_eq_true c
      omega
    rw [if_neg c'] at er
    exact ⟨(by show 1 ≤ sizeLine; decide), fun q hq => fin _ er q hq⟩
  have c' : ns.length - c1 ≤ t := by
    have e := of_decide_eq_false c
    omega
  rw [if_pos c'] at er
  refine ⟨_, rfl, _, rfl, _, _, rfl, rfl, _, rfl, ifB (fun d => ?_) fun d => ?_⟩
  · have d' : ¬ ns.length - c2 ≤ t := by
      have e := of_decide_eq_true d
      omega
    have e0 : t + 1 + c2 - ns.length = 0 := by omega
    rw [if_neg d', e0] at er
    exact ⟨(by show 3 ≤ sizeLine; decide), fun q hq => fin _ er q hq⟩
  have d' : ns.length - c2 ≤ t := by
    have e := of_decide_eq_false d
    omega
  rw [if_pos d'] at er
  refine ⟨_, rfl, _, _, rfl, rfl, _, rfl, _, _, rfl, rfl, ?_⟩
  refine ⟨_, rfl, _, _, rfl, rfl, .inl ⟨by decide, by decide⟩, _, rfl, _, _, rfl, rfl, _, rfl, _, _, rfl, rfl, _, _, rfl, rfl, ?_⟩
  refine ⟨(by show 3 ≤ sizeLine; decide), fun q hq => ?_⟩
  have a1 : (t : Int) + 1 - ((ns.length - c2 : Nat) : Int) = ((t + 1 + c2 - ns.length : Nat) : Int) := by omega
  have a2 : 2 * (t : Int) - ((ns.length - c1 : Nat) : Int) - ((ns.length - c2 : Nat) : Int) + 1 = ((2 * t + 1 + c1 + c2 - 2 * ns.length : Nat) : Int) := by omega
  dsimp only
  rw [a1, a2]
  exact fin _ er q hq
end
end Rm

set_option Elab.async false
set_option linter.all false
set_option maxRecDepth 100000
set_option maxHeartbeats 4000000
/-! is_book, has_empty_times; next, rule, block, critical. -/
namespace Rm
open PySem PySem.Spec PyProof.Rows L2
/-! ### empty times as data -/
def brD (e : Vbceah.Breaks) : PyData := .list (e.map fun x => .tuple [.int (x.1 : Int), .int (x.2 : Int)])
theorem brD_all (K : PySem.W.Frag) {H : Hp} : ∀ {as : List Addr} {e : Vbceah.Breaks}, Paired (fun p x => PairAt H p x) as e → DpAll K H (as.map V.ref) (e.map fun x => PyData.tuple [.int (x.1 : Int), .int (x.2 : Int)])
  | _, _, .nil => .nil
  | _, _, .cons r t => .cons (.tup (.inl (.inl r)) (.cons (.int _) (.cons (.int _) .nil))) (brD_all K t)
theorem brD_at (K : PySem.W.Frag) {H : Hp} {p : Addr} {e : Vbceah.Breaks} (h : BreaksAt H p e) : Dp K H (.ref p) (brD e) := by
  obtain ⟨as, h1, h2⟩ := h
  exact .lst (.inl (.inl h1)) (brD_all K h2)
theorem brD_lay : ∀ e : Vbceah.Breaks, PyData.canLayAll0 (e.map fun x => PyData.tuple [.int (x.1 : Int), .int (x.2 : Int)]) = true
  | [] => by simp [PyData.canLayAll0]
  | x :: e => by
    have i := brD_lay e
    rw [List.map_cons]
    simp only [PyData.canLayAll0, PyData.canLay0, Bool.true_and, Bool.and_true]
    exact i
theorem brD_depth : ∀ e : Vbceah.Breaks, PyData.depthAll (e.map fun x => PyData.tuple [.int (x.1 : Int), .int (x.2 : Int)]) ≤ 1
  | [] => by simp [PyData.depthAll]
  | x :: e => by
    have i := brD_depth e
    rw [List.map_cons]
    simp only [PyData.depthAll, PyData.depth]
    omega
theorem brD_shaped (a b : Vbceah.Breaks) : SeqAt.shaped (.list [brD a, brD b]) = true := by
  unfold SeqAt.shaped brD
  have h1 := brD_lay a
  have h2 := brD_lay b
  have h3 := brD_depth a
  have h4 := brD_depth b
  rw [Bool.and_eq_true, decide_eq_true_eq]
  constructor
  · simp only [PyData.canLay0, PyData.canLayAll0, h1, h2, Bool.and_true]
  · simp only [PyData.depth, PyData.depthAll]
    omega
theorem brD_nil (e : Vbceah.Breaks) : PyData.eqv (brD e) (brD []) = e.isEmpty := by
  cases e with
  | nil => simp [brD, PyData.eqv, PyData.eqvAll]
  | cons x e => simp [brD, PyData.eqv, PyData.eqvAll]
theorem brD_eqv (a b : Vbceah.Breaks) : PyData.eqv (.list [brD a, brD b]) (.list [brD [], brD []]) = (a.isEmpty && b.isEmpty) := by
  have h1 := brD_nil a
  have h2 := brD_nil b
  simp only [PyData.eqv, PyData.eqvAll, h1, h2, Bool.and_true]
section
variable {P : Program} {w : World} {K : PySem.W.Frag} {mg : Str → Option Value} {base : Heap} {C : Addr}
def spIsBook (C : Addr) : Sp := fun vs H Q _ => ∃ (G r ba ea : Addr) (s : Vbceah.State) (n : Int), vs = [.ref r, .int n] ∧ RoomAt C G H r ba ea s ∧ ∀ H', Same H H' → Q (.bl (Vbceah.isBook s n)) H'
abbrev sIsBook : Stmt := topS 35
theorem scIsBook : FnScope ["room", "number"] ["room", "number"] (C8.fnScope sIsBook) := C8.fnScope_by (by decide +kernel)
theorem cal_isBook (h : Has K mg "is_book" ["room", "number"] sIsBook) (T : RoomTxt K C) (O : Own mg) : C8.Cal P w K mg base 1 "is_book" (spIsBook C) [] := by
  obtain ⟨f, fd, D, b⟩ := h
  refine C8.cal0 D b .nil scIsBook (fun vs H Q E h => ?_) fun cdv A outer s H vs Q E hr h => ⟨_,
    pss_one (ps_ret (pe_chain op_le op_lt pe_int (pv 1) (pe_callB call_len_seq (by rfl) O.len PySem.boot_len (pa_cons (pe_fld (pv 0) rfl) pa_nil)))), ?_⟩
  · obtain ⟨G, r, ba, ea, s, n, rfl, _⟩ := h
    rfl
  obtain ⟨G, r, ba, ea, s, n, rfl, hR, k⟩ := h
  obtain ⟨dx, oa, hr1, ⟨as, hb, hp⟩, hE, hO⟩ := hR.flds
  have elb : (as.map V.ref).length = s.books.length := by rw [List.length_map]; exact Paired.length hp
  have q := k H (Same.refl H)
  unfold Vbceah.isBook VbceCore.isBetween at q
  refine ⟨_, rfl, _, _, rfl, rfl, _, rfl, ifB (fun c => ?_) fun c => ?_⟩
  · rw [c, Bool.true_and] at q
    refine ⟨_, rfl, r, C, dx, _, _, rfl, hr1, T.cl, T.nB, lkB .., ba, _, rfl, .inl (.inl (.inl hb)), _, _, rfl, rfl, ?_⟩
    have e : decide (n ≤ (s.books.length : Int) - 1) = decide (n < ((as.map V.ref).length : Int)) := by
      rw [elb]
      exact decide_eq_decide.mpr (by omega)
    rw [e] at q
    exact q
  · rw [c, Bool.false_and] at q
    exact q
def spHasE (C : Addr) : Sp := fun vs H Q _ => ∃ (G r ba ea : Addr) (s : Vbceah.State), vs = [.ref r] ∧ RoomAt C G H r ba ea s ∧ ∀ H', Same H H' → Q (.bl (!(s.empty1.isEmpty && s.empty2.isEmpty))) H'
abbrev sHasE : Stmt := topS 36
theorem scHasE : FnScope ["room"] ["room"] (C8.fnScope sHasE) := C8.fnScope_by (by decide +kernel)
theorem cal_hasE (h : Has K mg "has_empty_times" ["room"] sHasE) (T : RoomTxt K C) : C8.Cal P w K mg base 1 "has_empty_times" (spHasE C) [] := by
  obtain ⟨f, fd, D, b⟩ := h
  refine C8.cal0 D b .nil scHasE (fun vs H Q E h => ?_) fun cdv A outer s H vs Q E hr h => ⟨_,
    pss_one (ps_ret (pe_cmpR (op_neD hr.units) (pe_fld (pv 0) rfl) (pe_lst (pa_cons (pe_lst pa_nil) (pa_cons (pe_lst pa_nil) pa_nil))) (nomark _))), ?_⟩
  · obtain ⟨G, r, ba, ea, s, rfl, _⟩ := h
    rfl
  obtain ⟨G, r, ba, ea, s, rfl, hR, k⟩ := h
  obtain ⟨dx, oa, hr1, hB, hE, hO⟩ := hR.flds
  refine ⟨_, rfl, r, C, dx, _, _, rfl, hr1, T.cl, T.nE, lkE .., (by show 0 ≤ sizeLine; decide), fun p hp => ⟨(by show 0 ≤ sizeLine; decide), fun q hq => ⟨(by show 2 ≤ sizeLine; decide), fun e he => ?_⟩⟩⟩
  have s1 := same_new (o := .lst []) hp
  have s2 := same_new (o := .lst []) hq
  have s3 := same_new (o := .lst [.ref p, .ref q]) he
  have ss := (s1.trans s2).trans s3
  have hp3 := (s2.trans s3) _ _ (upd_same (H := H) (a := p) (o := .lst []))
  have hq3 := s3 _ _ (upd_same (H := upd H p (.lst [])) (a := q) (o := .lst []))
  have he3 : upd (upd (upd H p (.lst [])) q (.lst [])) e (.lst [.ref p, .ref q]) e = some (.lst [.ref p, .ref q]) := upd_same
  generalize upd (upd (upd H p (.lst [])) q (.lst [])) e (.lst [.ref p, .ref q]) = H3 at ss hp3 hq3 he3
  obtain ⟨p1, q1, e1, e2, e3⟩ := EmptAt.stays _ _ _ _ ss hE
  refine ⟨.list [brD s.empty1, brD s.empty2], .list [brD [], brD []], .lst (.inl (.inl e1)) (.cons (brD_at K e2) (.cons (brD_at K e3) .nil)), .lst (.inl (.inl he3)) (.cons (brD_at K ⟨[], hp3, .nil⟩) (.cons (brD_at K ⟨[], hq3, .nil⟩) .nil)), brD_shaped _ _, brD_shaped _ _, ?_⟩
  rw [brD_eqv]
  exact k H3 ss
/-! ### next -/
abbrev sNext : Stmt := topS 48
abbrev nNext : List Str := ["room", "numbers", "standing", "ends", "book", "further"]
theorem scNext : FnScope nNext ["room", "numbers"] (C8.fnScope sNext) := C8.fnScope_by (by decide +kernel)
theorem cal_next (h : Has K mg "tell_next" ["room", "numbers"] sNext) (T : RoomTxt K C) (O : Own mg) (S : C8.Cal P w K mg base 5 "standings_of" (spStandings C) []) (B : C8.Cal P w K mg base 3 "standing_behind" spBehind []) (Le : C8.Cal P w K mg base 5 "least_end" spLeast []) (A : C8.Cal P w K mg base 1 "as_list" spAsList []) :
    C8.Cal P w K mg base 6 "tell_next" (spAct C (gStep [[10]]) any) [] := by
  obtain ⟨f, fd, D, b⟩ := h
  refine C8.cal0 D b .nil scNext (fun vs H Q E h => ?_) fun cdv A' outer s H vs Q E hr h => ⟨_,
    pss_cons (ps_set (i := 2) scNext.nd rfl (.inl rfl) (pe_ix ix_list (C8.pe_c S hr (by decide) (by rfl) (pa_cons (pv 0) pa_nil)) (pe_un un_neg pe_int) (fun _ _ => rfl)))
    (pss_cons (ps_set (i := 3) scNext.nd rfl (.inl rfl) (pe_lst pa_nil))
    (pss_cons (ps_for PassesOwn.never rfl (pi_range1 (by rfl) O.range (pa_cons (pe_callB call_len_seq (by rfl) O.len PySem.boot_len (pa_cons (pe_fld (pv 0) rfl) pa_nil)) pa_nil)) (pg_name (i := 4) scNext.nd rfl (.inl rfl))
      (pss_cons (ps_set (i := 5) scNext.nd rfl (.inl rfl) (C8.pe_c B hr (by decide) (by rfl) (pa_cons (pe_fld (pv 0) rfl) (pa_cons (pe_fld (pv 0) rfl) (pa_cons (pv 2) (pa_cons (pv 4) pa_nil))))))
      (pss_one (ps_if (pt_cmpR op_isN (pv 5) pe_non (nomark _))
        (pss_one (ps_expr (pe_bm PySem.F.plainAttrs_list PySem.F.slot_list_append PySem.F.type_list_append mt_append (pv 3) (pa_cons (pe_un un_neg pe_int) pa_nil))))
        (pss_one (ps_expr (pe_bm PySem.F.plainAttrs_list PySem.F.slot_list_append PySem.F.type_list_append mt_append (pv 3) (pa_cons (C8.pe_c Le hr (by decide) (by rfl) (pa_cons (pe_fld (pv 0) rfl) (pa_cons (pe_fld (pv 0) rfl) (pa_cons (pv 5) pa_nil)))) pa_nil))))))))
    (pss_one (ps_ret (C8.pe_c A hr (by decide) (by rfl) (pa_cons (pv 3) pa_nil)))))), ?_⟩
  · obtain ⟨G, r, na, ba, ea, s, ns, rfl, _⟩ := h
    rfl
  obtain ⟨G, r, na, ba, ea, s, ns, rfl, hR, hN, g, _, k⟩ := tells (fun _ _ => rfl) h
  obtain ⟨dx, oa, hr1, hB, hE, hO⟩ := hR.flds
  have h4 := g.four
  have F := lead0_fit (e2 := s.empty2) g.u1 g.runs
  refine ⟨_, rfl, G, r, ba, ea, s, rfl, hR, g, fun H1 p g1 hT => ?_⟩
  obtain ⟨as, z, hz, hS⟩ := last_at hT
  have hS' : StandAt H1 z (lead0 s.books s.empty1 s.empty2 s.order) := hS
  refine ⟨_, rfl, p, _, _, _, rfl, rfl, .inl (.inl hz), atI_last _ _, (by show 0 ≤ sizeLine; decide), fun L hL => ?_⟩
  have hL0 := g1.free hL
  have sL := same_new (o := .lst []) hL
  have hLL : upd H1 L (.lst []) L = some (.lst []) := upd_same
  generalize upd H1 L (.lst []) = H2 at sL hLL
  obtain ⟨bs', hb2, hp2⟩ := BooksAt.stays _ _ _ _ (g1.trans sL) hB
  have elb : (bs'.map V.ref).length = s.books.length := by rw [List.length_map]; exact Paired.length hp2
  refine ⟨_, rfl, r, C, dx, _, _, rfl, (g1.trans sL) _ _ hr1, T.cl, T.nB, lkB .., ba, _, rfl, .inl (.inl (.inl hb2)), s.books.length, by rw [elb], by omega, by omega, ?_⟩
  refine for_range (lo := 0) (n := s.books.length) (fun i σ H' => ∃ v4 v5 : Option V, σ = [some (.ref r), some (.ref na), some (.ref z), some (.ref L), v4, v5] ∧ H' L = some (.lst (iv (((List.range s.books.length).map (nextEnd s)).take i))) ∧ ∀ b o, H1 b = some o → H' b = some o)
    ⟨none, none, rfl, hLL, sL⟩ ?_ ?_
  · rintro i σ H' hi ⟨v4, v5, rfl, hLi, s5⟩
    have ei : ((0 : Int) + (i : Nat)) = ((i : Nat) : Int) := by omega
    have s6 : Same H H' := Same.trans g1 s5
    have hget : ((List.range s.books.length).map (nextEnd s))[i]? = some (nextEnd s i) := by rw [List.getElem?_map, List.getElem?_range hi]; rfl
    have sz : (iv (((List.range s.books.length).map (nextEnd s)).take i)).length < sizeLine := by
      rw [iv_len, List.length_take, List.length_map, List.length_range, sizeLine_eq]
      omega
    have fin : ∀ (H3 : Hp) (x : Int) (v : V), Same H' H3 → nextEnd s i = x → ∃ v4 v5 : Option V, (([some (.ref r), some (.ref na), some (.ref z), some (.ref L), some (.int (0 + (i : Nat))), some v] : L2.St) = [some (.ref r), some (.ref na), some (.ref z), some (.ref L), v4, v5]) ∧
        upd H3 L (.lst (iv (((List.range s.books.length).map (nextEnd s)).take i) ++ [.int x])) L = some (.lst (iv (((List.range s.books.length).map (nextEnd s)).take (i + 1)))) ∧ ∀ b o, H1 b = some o → upd H3 L (.lst (iv (((List.range s.books.length).map (nextEnd s)).take i) ++ [.int x])) b = some o := fun H3 x v g3 ex => by
      refine ⟨_, _, rfl, ?_, fun b o e => ?_⟩
      · rw [upd_same, take_get hget, iv_append, ex]
        rfl
      · rw [upd_ne (ne_of_none e hL)]
        exact g3 _ _ (s5 b o e)
    refine ⟨_, rfl, r, C, dx, _, _, rfl, s6 _ _ hr1, T.cl, T.nB, lkB .., _, rfl, r, C, dx, _, _, rfl, s6 _ _ hr1, T.cl, T.nE, lkE .., _, rfl, _, rfl, ?_⟩
    refine ⟨ba, ea, z, i, s.books, s.empty1, s.empty2, _, by rw [ei] <;> rfl, BooksAt.stays _ _ _ _ s6 hB, EmptAt.stays _ _ _ _ s6 hE, StandAt.stays _ _ _ _ s5 hS', g.u1, g.u2, hi, F.len, by omega, F.le i hi, fun en H3 g3 => ?_, fun y hy H3 p3 g3 hy3 => ?_⟩
    · refine ⟨_, rfl, rfl, _, rfl, iteT ?_⟩
      refine ⟨_, rfl, .inl ⟨rfl, _, .inl (.inl (g3 _ _ hLi))⟩, _, rfl, L, _, _, rfl, rfl, g3 _ _ hLi, sz, fin H3 (-1) _ g3 ?_⟩
      unfold nextEnd
      rw [en]
    · refine ⟨_, rfl, rfl, _, rfl, iteF ?_⟩
      have s7 := s6.trans g3
      refine ⟨_, rfl, .inl ⟨rfl, _, .inl (.inl (g3 _ _ hLi))⟩, _, rfl, r, C, dx, _, _, rfl, s7 _ _ hr1, T.cl, T.nB, lkB .., _, rfl, r, C, dx, _, _, rfl, s7 _ _ hr1, T.cl, T.nE, lkE .., _, rfl, ?_⟩
      refine ⟨ba, ea, p3, s.books, s.empty1, s.empty2, y, rfl, BooksAt.stays _ _ _ _ s7 hB, EmptAt.stays _ _ _ _ s7 hE, hy3, g.u1, g.u2, F.next g.u1 hi hy, h4, g.twelve, fun H4 g4 => ?_⟩
      refine ⟨L, _, _, rfl, rfl, g4 _ _ (g3 _ _ hLi), sz, fin H4 _ _ (g3.trans g4) ?_⟩
      unfold nextEnd
      rw [hy]
  · rintro σ H' ⟨v4, v5, rfl, hLi, s5⟩
    rw [List.take_of_length_le (by rw [List.length_map, List.length_range]; exact Nat.le_refl _)] at hLi
    have s6 : Same H H' := Same.trans g1 s5
    refine ⟨_, rfl, L, _, rfl, hLi, by rw [iv_len, List.length_map, List.length_range]; omega, fun H3 p3 g3 n3 e3 => k H3 p3 (s6.trans g3) (s6.free n3) ?_⟩
    show _ = some (HO.lst (iv (Vbceah.step s [[10]]).2))
    rw [e3, step_next g, iv_len, List.length_map, List.length_range]
    rfl
end
end Rm

set_option Elab.async false
set_option linter.all false
set_option maxRecDepth 100000
set_option maxHeartbeats 4000000
/-! rule, block, critical. -/
namespace Rm
open PySem PySem.Spec PyProof.Rows L2
theorem nats_ints (l : List Nat) : nats l = iv (VbceCore.ints l) := nats_iv l
theorem emp_iff (s : Vbceah.State) : (s.empty1.isEmpty && s.empty2.isEmpty) = true ↔ s.empty1 = [] ∧ s.empty2 = [] := by rw [Bool.and_eq_true, List.isEmpty_iff, List.isEmpty_iff]
section
variable {P : Program} {w : World} {K : PySem.W.Frag} {mg : Str → Option Value} {base : Heap} {C : Addr}
/-! ### rule -/
abbrev sRule : Stmt := topS 49
theorem scRule : FnScope ["room", "numbers", "row"] ["room", "numbers"] (C8.fnScope sRule) := C8.fnScope_by (by decide +kernel)
theorem cal_rule (h : Has K mg "tell_rule" ["room", "numbers"] sRule) (T : RoomTxt K C) (He : C8.Cal P w K mg base 1 "has_empty_times" (spHasE C) []) (By : C8.Cal P w K mg base 9 "books_by_rule" spByRule []) (A : C8.Cal P w K mg base 1 "as_list" spAsList []) (Be : C8.Cal P w K mg base 6 "block_end" spBlockEnd []) :
    C8.Cal P w K mg base 10 "tell_rule" (spAct C (gStep [[11]]) any) [] := by
  obtain ⟨f, fd, D, b⟩ := h
  refine C8.cal0 D b .nil scRule (fun vs H Q E h => ?_) fun cdv A' outer s H vs Q E hr h => ⟨_,
    pss_cons (ps_if (pt_val (C8.pe_c He hr (by decide) (by rfl) (pa_cons (pv 0) pa_nil))) (pss_one (ps_ret (pe_lst (pa_cons (pe_un un_neg pe_int) pa_nil)))) pss_nil)
    (pss_cons (ps_set (i := 2) scRule.nd rfl (.inl rfl) (C8.pe_c By hr (by decide) (by rfl) (pa_cons (pe_fld (pv 0) rfl) pa_nil)))
    (pss_one (ps_ret (pe_op op_cat (C8.pe_c A hr (by decide) (by rfl) (pa_cons (pv 2) pa_nil)) (pe_lst (pa_cons (C8.pe_c Be hr (by decide) (by rfl) (pa_cons (pe_fld (pv 0) rfl) (pa_cons (pv 2) pa_nil))) pa_nil)))))), ?_⟩
  · obtain ⟨G, r, na, ba, ea, s, ns, rfl, _⟩ := h
    rfl
  obtain ⟨G, r, na, ba, ea, s, ns, rfl, hR, hN, g, _, k⟩ := tells (fun _ _ => tells_rule) h
  obtain ⟨dx, oa, hr1, hB, hE, hO⟩ := hR.flds
  have h4 := g.four
  have h12 := g.twelve
  refine ⟨_, rfl, G, r, ba, ea, s, rfl, hR, fun H1 g1 => ⟨_, rfl, ?_⟩⟩
  have k' : ∀ H' p, Same H H' → H p = none → H' p = some (.lst (iv (Vbceah.step s [[11]]).2)) → Q (.ref p) H' := k
  rw [step_rule] at k'
  by_cases c : s.empty1 = [] ∧ s.empty2 = []
  · rw [(emp_iff s).mpr c]
    rw [full_if c.1 c.2] at k'
    refine iteF ?_
    refine ⟨_, rfl, r, C, dx, _, _, rfl, g1 _ _ hr1, T.cl, T.nB, lkB .., ba, s.books, rfl, BooksAt.stays _ _ _ _ g1 hB, by omega, h12, fun H2 p g2 hp => ?_⟩
    have s2 := g1.trans g2
    have pr := ruled_perm s.books
    have rl := pr.length_eq
    rw [List.length_range] at rl
    refine ⟨_, rfl, p, _, rfl, hp, by rw [nats_len]; omega, fun H3 q g3 n3 e3 => ?_⟩
    have s3 := s2.trans g3
    refine ⟨_, rfl, r, C, dx, _, _, rfl, s3 _ _ hr1, T.cl, T.nB, lkB .., _, rfl, ba, p, s.books, _, rfl, BooksAt.stays _ _ _ _ s3 hB, g3 _ _ hp, by omega, h12, pr.nodup_iff.mpr List.nodup_range, fun b hb => List.mem_range.mp (pr.mem_iff.mp hb), fun H4 g4 => ?_⟩
    have s4 := s3.trans g4
    refine ⟨(by show 1 ≤ sizeLine; decide), fun t ht => ?_⟩
    refine ⟨q, t, _, _, rfl, rfl, same_new ht _ _ (g4 _ _ e3), upd_same, ?_, fun u hu => ?_⟩
    · rw [List.length_cons, nats_len, sizeLine_eq]
      show _ + 1 + 1 ≤ _
      omega
    have s5 := s4.trans (same_new (o := .lst [V.int (Vbceah.endOfBlocks s.books (Vbceah.ruled s.books) : Nat)]) ht)
    refine k' _ u (same_upd s5 (s5.free hu)) (s5.free hu) ?_
    rw [upd_same, row_iv]
    unfold iv
    rw [List.map_append]
    rfl
  · have ef : (s.empty1.isEmpty && s.empty2.isEmpty) = false := Bool.eq_false_iff.mpr fun z => c ((emp_iff s).mp z)
    rw [ef]
    rw [full_no c] at k'
    exact iteT ⟨_, rfl, (by show 1 ≤ sizeLine; decide), fun q hq => k' _ q (same_upd g1 (g1.free hq)) (g1.free hq) upd_same⟩
/-! ### block -/
abbrev sBlock : Stmt := topS 50
theorem scBlock : FnScope ["room", "numbers", "book"] ["room", "numbers"] (C8.fnScope sBlock) := C8.fnScope_by (by decide +kernel)
theorem book_nat {s : Vbceah.State} {d : Int} : Vbceah.isBook s d = true ↔ ∃ i : Nat, d = i ∧ i < s.books.length := between_nat
theorem cal_block (h : Has K mg "tell_block" ["room", "numbers"] sBlock) (T : RoomTxt K C) (Is : C8.Cal P w K mg base 1 "is_book" (spIsBook C) []) (Th : C8.Cal P w K mg base 7 "three_numbers" spThree []) (Lt : C8.Cal P w K mg base 8 "lead_and_tail" spLT []) :
    C8.Cal P w K mg base 9 "tell_block" (spAct C (gOne 12) preO) [] := by
  obtain ⟨f, fd, D, b⟩ := h
  refine C8.cal0 D b .nil scBlock (fun vs H Q E h => ?_) fun cdv A' outer s H vs Q E hr h => ⟨_,
    pss_cons (ps_set (i := 2) scBlock.nd rfl (.inl rfl) (pe_ix ix_list (pv 1) pe_int (fun _ _ => rfl)))
    (pss_cons (ps_if (pt_not (pt_val (C8.pe_c Is hr (by decide) (by rfl) (pa_cons (pv 0) (pa_cons (pv 2) pa_nil))))) (pss_one (ps_ret (pe_lst (pa_cons (pe_un un_neg pe_int) pa_nil)))) pss_nil)
    (pss_one (ps_ret (pe_op op_cat (C8.pe_c Th hr (by decide) (by rfl) (pa_cons (pe_fld (pv 0) rfl) (pa_cons (pv 2) pa_nil))) (C8.pe_c Lt hr (by decide) (by rfl) (pa_cons (pe_fld (pv 0) rfl) (pa_cons (pv 2) pa_nil))))))), ?_⟩
  · obtain ⟨G, r, na, ba, ea, s, ns, rfl, _⟩ := h
    rfl
  obtain ⟨G, r, na, ba, ea, s, ns, rfl, hR, hN, g, ⟨d, rfl⟩, k⟩ := tells (fun _ _ => tells_block) h
  obtain ⟨dx, oa, hr1, hB, hE, hO⟩ := hR.flds
  have h4 := g.four
  have h12 := g.twelve
  have k' : ∀ H' p, Same H H' → H p = none → H' p = some (.lst (iv (Vbceah.step s [[12, d]]).2)) → Q (.ref p) H' := k
  have h0 : atI (iv [d]) 0 = some (.int d) := atI_nat (xs := iv [d]) (j := 0) rfl
  refine ⟨_, rfl, na, _, 0, _, rfl, rfl, .inl (.inl hN), h0, ?_⟩
  refine ⟨_, rfl, _, rfl, G, r, ba, ea, s, d, rfl, hR, fun H1 g1 => ⟨_, rfl, ?_⟩⟩
  by_cases c : ∃ i : Nat, d = i ∧ i < s.books.length
  · rw [book_nat.mpr c]
    obtain ⟨i, rfl, hi⟩ := c
    rw [step_block hi] at k'
    refine iteF ?_
    refine ⟨_, rfl, r, C, dx, _, _, rfl, g1 _ _ hr1, T.cl, T.nB, lkB .., _, rfl, ba, i, s.books, rfl, BooksAt.stays _ _ _ _ g1 hB, hi, by omega, h12, fun H2 p g2 n2 e2 => ?_⟩
    have s2 := g1.trans g2
    refine ⟨_, rfl, r, C, dx, _, _, rfl, s2 _ _ hr1, T.cl, T.nB, lkB .., _, rfl, ba, i, s.books, rfl, BooksAt.stays _ _ _ _ s2 hB, hi, by omega, h12, fun H3 q g3 n3 e3 => ?_⟩
    have s3 := s2.trans g3
    refine ⟨p, q, _, _, rfl, rfl, g3 _ _ e2, e3, (by show 3 + 2 ≤ sizeLine; decide), fun u hu => ?_⟩
    refine k' _ u (same_upd s3 (s3.free hu)) (s3.free hu) ?_
    rw [upd_same, ← nats_append, nats_ints]
    rfl
  · rw [Bool.eq_false_iff.mpr fun z => c (book_nat.mp z)]
    rw [step_block_no c] at k'
    exact iteT ⟨_, rfl, (by show 1 ≤ sizeLine; decide), fun q hq => k' _ q (same_upd g1 (g1.free hq)) (g1.free hq) upd_same⟩
/-! ### critical -/
abbrev sCrit : Stmt := topS 51
theorem scCrit : FnScope ["room", "numbers"] ["room", "numbers"] (C8.fnScope sCrit) := C8.fnScope_by (by decide +kernel)
theorem cal_crit (h : Has K mg "tell_critical" ["room", "numbers"] sCrit) (T : RoomTxt K C) (O : Own mg) (He : C8.Cal P w K mg base 1 "has_empty_times" (spHasE C) []) (Ha : C8.Cal P w K mg base 6 "hanging_place" spHang []) :
    C8.Cal P w K mg base 7 "tell_critical" (spAct C (gStep [[13]]) any) [] := by
  obtain ⟨f, fd, D, b⟩ := h
  refine C8.cal0 D b .nil scCrit (fun vs H Q E h => ?_) fun cdv A' outer s H vs Q E hr h => ⟨_,
    pss_cons (ps_if (pt_val (C8.pe_c He hr (by decide) (by rfl) (pa_cons (pv 0) pa_nil))) (pss_one (ps_ret (pe_lst (pa_cons (pe_un un_neg pe_int) pa_nil)))) pss_nil)
    (pss_cons (ps_if (pt_cmpR op_eq (pe_callB call_len_seq (by rfl) O.len PySem.boot_len (pa_cons (pe_fld (pv 0) rfl) pa_nil)) pe_int (nomark _)) (pss_one (ps_ret (pe_lst (pa_cons (pe_un un_neg pe_int) pa_nil)))) pss_nil)
    (pss_one (ps_ret (pe_lst (pa_cons (C8.pe_c Ha hr (by decide) (by rfl) (pa_cons (pe_fld (pv 0) rfl) (pa_cons (pe_fld (pv 0) rfl) pa_nil))) pa_nil))))), ?_⟩
  · obtain ⟨G, r, na, ba, ea, s, ns, rfl, _⟩ := h
    rfl
  obtain ⟨G, r, na, ba, ea, s, ns, rfl, hR, hN, g, _, k⟩ := tells (fun _ _ => tells_critical) h
  obtain ⟨dx, oa, hr1, hB, hE, hO⟩ := hR.flds
  have h4 := g.four
  have h12 := g.twelve
  have ho := runs_len g.runs
  have k' : ∀ H' p, Same H H' → H p = none → H' p = some (.lst (iv (Vbceah.step s [[13]]).2)) → Q (.ref p) H' := k
  rw [step_critical] at k'
  refine ⟨_, rfl, G, r, ba, ea, s, rfl, hR, fun H1 g1 => ⟨_, rfl, ?_⟩⟩
  by_cases c : s.empty1 = [] ∧ s.empty2 = []
  · rw [(emp_iff s).mpr c]
    rw [full_if c.1 c.2] at k'
    refine iteF ?_
    refine ⟨_, rfl, r, C, dx, _, _, rfl, g1 _ _ hr1, T.cl, T.nO, lkO .., oa, _, rfl, .inl (.inl (.inl (g1 _ _ hO))), rfl, _, rfl, ifB (fun d => ?_) fun d => ?_⟩
    · have d' : s.order = [] := by
        have e := V.int.inj (of_decide_eq_true d)
        rw [nats_len] at e
        exact List.eq_nil_of_length_eq_zero (by omega)
      rw [critical_none d'] at k'
      exact ⟨_, rfl, (by show 1 ≤ sizeLine; decide), fun q hq => k' _ q (same_upd g1 (g1.free hq)) (g1.free hq) upd_same⟩
    · have d' : s.order ≠ [] := fun z => of_decide_eq_false d (by rw [nats_len, z]; rfl)
      obtain ⟨n, hn⟩ := critical_ord g d'
      rw [hn] at k'
      refine ⟨_, rfl, r, C, dx, _, _, rfl, g1 _ _ hr1, T.cl, T.nB, lkB .., _, rfl, r, C, dx, _, _, rfl, g1 _ _ hr1, T.cl, T.nO, lkO .., ?_⟩
      refine ⟨ba, oa, s.books, s.order, n, rfl, BooksAt.stays _ _ _ _ g1 hB, OrderAt.stays _ _ _ _ g1 hO, by omega, by omega, g.runs, hn, fun H2 g2 => ?_⟩
      have s2 := g1.trans g2
      exact ⟨(by show 1 ≤ sizeLine; decide), fun q hq => k' _ q (same_upd s2 (s2.free hq)) (s2.free hq) upd_same⟩
  · have ef : (s.empty1.isEmpty && s.empty2.isEmpty) = false := Bool.eq_false_iff.mpr fun z => c ((emp_iff s).mp z)
    rw [ef]
    rw [full_no c] at k'
    exact iteT ⟨_, rfl, (by show 1 ≤ sizeLine; decide), fun q hq => k' _ q (same_upd g1 (g1.free hq)) (g1.free hq) upd_same⟩
end
end Rm

set_option Elab.async false
set_option linter.all false
set_option maxRecDepth 100000
set_option maxHeartbeats 4000000
/-! judge, more. -/
namespace Rm
open PySem PySem.Spec PyProof.Rows L2
def votesB (d : Int) (l : List Int) : Bool := decide (0 ≤ d) && (decide (d ≤ 10) && l.all fun n => VbceCore.isBetween n (-1000000000) 1000000000)
theorem votes_iff {d : Int} {l : List Int} : votesB d l = true ↔ votesOk d l := by
  unfold votesB votesOk
  rw [Bool.and_eq_true, Bool.and_eq_true, decide_eq_true_eq, decide_eq_true_eq]
theorem cut_tail (d : Int) (l : List Int) : cutV (iv (d :: l)) (some 1) none = iv l := cut_from (xs := iv (d :: l)) (k := 1) (by rw [iv_len]; exact Nat.succ_le_succ (Nat.zero_le _))
theorem at_head (d : Int) (l : List Int) : atI (iv (d :: l)) 0 = some (.int d) := atI_nat (xs := iv (d :: l)) (j := 0) rfl
section
variable {P : Program} {w : World} {K : PySem.W.Frag} {mg : Str → Option Value} {base : Heap} {C : Addr}
def spAreW : Sp := fun vs H Q _ => ∃ (na : Addr) (d : Int) (l : List Int), vs = [.ref na] ∧ H na = some (.lst (iv (d :: l))) ∧ l.length ≤ 30 ∧ ∀ H', Same H H' → Q (.bl (votesB d l)) H'
abbrev sAreW : Stmt := topS 52
theorem scAreW : FnScope ["numbers", "borne", "workings"] ["numbers"] (C8.fnScope sAreW) := C8.fnScope_by (by decide +kernel)
theorem cal_areW (h : Has K mg "are_workings" ["numbers"] sAreW) (O : Own mg) (Wi : C8.Cal P w K mg base 1 "all_within" spWithin []) : C8.Cal P w K mg base 2 "are_workings" spAreW [] := by
  obtain ⟨f, fd, D, b⟩ := h
  refine C8.cal0 D b .nil scAreW (fun vs H Q E h => ?_) fun cdv A outer s H vs Q E hr h => ⟨_,
    pss_cons (ps_set (i := 1) scAreW.nd rfl (.inl rfl) (pe_ix ix_list (pv 0) pe_int (fun _ _ => rfl)))
    (pss_cons (ps_set (i := 2) scAreW.nd rfl (.inl rfl) (pe_slice sl_list (pv 0) (po_some pe_int) po_none))
    (pss_one (ps_ret (pe_and (pe_chain op_le op_le pe_int (pv 1) pe_int) (pe_and (pe_cmpR op_le (pe_callB call_len_seq (by rfl) O.len PySem.boot_len (pa_cons (pv 2) pa_nil)) pe_int (nomark _))
      (pe_one (C8.pe_c Wi hr (by decide) (by rfl) (pa_cons (pv 2) (pa_cons (pe_un un_neg pe_int) (pa_cons pe_int pa_nil)))))))))), ?_⟩
  · obtain ⟨na, d, l, rfl, _⟩ := h
    rfl
  obtain ⟨na, d, l, rfl, hN, hl, k⟩ := h
  refine ⟨_, rfl, na, _, 0, _, rfl, rfl, .inl (.inl hN), at_head d l, _, rfl, _, rfl, na, _, rfl, .inl (.inl hN), fun p hp => ?_⟩
  have s1 := same_new (o := .lst (cutV (iv (d :: l)) (some 1) none)) hp
  have hp1 : upd H p (.lst (cutV (iv (d :: l)) (some 1) none)) p = some (.lst (iv l)) := by rw [upd_same, cut_tail]
  generalize upd H p (.lst (cutV (iv (d :: l)) (some 1) none)) = H1 at s1 hp1
  have q := k H1 s1
  unfold votesB at q
  refine ⟨_, rfl, _, _, rfl, rfl, _, rfl, ifB (fun c1 => ?_) fun c1 => ?_⟩
  · rw [c1, Bool.true_and] at q
    refine ⟨_, _, rfl, rfl, _, rfl, ifB (fun c2 => ?_) fun c2 => ?_⟩
    · rw [c2, Bool.true_and] at q
      refine ⟨_, rfl, p, _, rfl, .inl (.inl (.inl hp1)), _, _, rfl, rfl, _, rfl, ?_⟩
      rw [iv_len, decide_eq_true (by omega)]
      refine iteT ⟨_, rfl, _, rfl, p, l, -1000000000, 1000000000, rfl, hp1, by omega, fun H2 g2 => ?_⟩
      have q2 := k H2 (s1.trans g2)
      unfold votesB at q2
      rw [c1, c2, Bool.true_and, Bool.true_and] at q2
      exact q2
    · rw [c2, Bool.false_and] at q
      exact q
  · rw [c1, Bool.false_and] at q
    exact ⟨_, rfl, iteF q⟩
/-! ### judge -/
abbrev sJudge : Stmt := topS 53
abbrev nJudge : List Str := ["room", "numbers", "borne", "workings", "flags"]
theorem scJudge : FnScope nJudge ["room", "numbers"] (C8.fnScope sJudge) := C8.fnScope_by (by decide +kernel)
theorem cal_judge (h : Has K mg "judge_workings" ["room", "numbers"] sJudge) (O : Own mg) (Ar : C8.Cal P w K mg base 2 "are_workings" spAreW []) (Ve : C8.Cal P w K mg base 3 "verdict" spVerdict []) (Un : C8.Cal P w K mg base 1 "untold_can_be_right" spUntold []) (Ca : C8.Cal P w K mg base 2 "told_that_can_be_right" spCan []) (A : C8.Cal P w K mg base 1 "as_list" spAsList []) :
    C8.Cal P w K mg base 4 "judge_workings" (spAct C (gOneL 14) preE) [] := by
  obtain ⟨f, fd, D, b⟩ := h
  refine C8.cal0 D b .nil scJudge (fun vs H Q E h => ?_) fun cdv A' outer s H vs Q E hr h => ⟨_,
    pss_cons (ps_if (pt_not (pt_val (C8.pe_c Ar hr (by decide) (by rfl) (pa_cons (pv 1) pa_nil)))) (pss_one (ps_ret (pe_lst (pa_cons (pe_un un_neg pe_int) pa_nil)))) pss_nil)
    (pss_cons (ps_set (i := 2) scJudge.nd rfl (.inl rfl) (pe_ix ix_list (pv 1) pe_int (fun _ _ => rfl)))
    (pss_cons (ps_set (i := 3) scJudge.nd rfl (.inl rfl) (pe_slice sl_list (pv 1) (po_some pe_int) po_none))
    (pss_cons (ps_set (i := 4) scJudge.nd rfl (.inl rfl) (pe_lst (pa_cons (C8.pe_c Ve hr (by decide) (by rfl) (pa_cons (pv 2) (pa_cons (pv 3) pa_nil))) (pa_cons (pe_callTy call_int1 (by rfl) O.int (by decide +kernel) (pa_cons (C8.pe_c Un hr (by decide) (by rfl) (pa_cons (pv 2) (pa_cons (pv 3) pa_nil))) pa_nil)) pa_nil))))
    (pss_one (ps_ret (pe_op op_cat (pv 4) (C8.pe_c A hr (by decide) (by rfl) (pa_cons (C8.pe_c Ca hr (by decide) (by rfl) (pa_cons (pv 2) (pa_cons (pv 3) pa_nil))) pa_nil)))))))), ?_⟩
  · obtain ⟨G, r, na, ba, ea, s, ns, rfl, _⟩ := h
    rfl
  obtain ⟨G, r, na, ba, ea, s, ns, rfl, hR, hN, g, ⟨d, l, rfl, hl⟩, k⟩ := tells (fun _ _ => tells_judge) h
  have k' : ∀ H' p, Same H H' → H p = none → H' p = some (.lst (iv (Vbceah.step s [[14, d], l]).2)) → Q (.ref p) H' := k
  refine ⟨_, rfl, na, d, l, rfl, hN, hl, fun H1 g1 => ⟨_, rfl, ?_⟩⟩
  by_cases c : votesOk d l
  · rw [votes_iff.mpr c]
    refine iteF ?_
    obtain ⟨t, rfl⟩ : ∃ t : Nat, d = t := ⟨d.toNat, by have := c.1; omega⟩
    rw [step_judge hl c] at k'
    refine ⟨_, rfl, na, _, 0, _, rfl, rfl, .inl (.inl (g1 _ _ hN)), at_head _ l, _, rfl, _, rfl, na, _, rfl, .inl (.inl (g1 _ _ hN)), fun p hp => ?_⟩
    have s1 := g1.trans (same_new (o := .lst (cutV (iv ((t : Int) :: l)) (some 1) none)) hp)
    have hp1 : upd H1 p (.lst (cutV (iv ((t : Int) :: l)) (some 1) none)) p = some (.lst (iv l)) := by rw [upd_same, cut_tail]
    generalize upd H1 p (.lst (cutV (iv ((t : Int) :: l)) (some 1) none)) = H2 at s1 hp1
    refine ⟨_, rfl, _, rfl, p, t, l, rfl, hp1, by omega, fun H3 g3 => ?_⟩
    refine ⟨_, rfl, _, rfl, p, t, l, rfl, g3 _ _ hp1, fun H4 g4 => .inr ⟨_, rfl, ?_⟩⟩
    have s4 := (s1.trans g3).trans g4
    have hp4 := g4 _ _ (g3 _ _ hp1)
    refine ⟨(by show 2 ≤ sizeLine; decide), fun q hq => ?_⟩
    have sq := same_new (o := .lst [V.int (Vbceah.verdict t l : Nat), V.int (if decide (l.length ≤ t) = true then 1 else 0)]) hq
    have hqq : upd H4 q (.lst [V.int (Vbceah.verdict t l : Nat), V.int (if decide (l.length ≤ t) = true then 1 else 0)]) q = some (.lst [V.int (Vbceah.verdict t l : Nat), V.int (if decide (l.length ≤ t) = true then 1 else 0)]) := upd_same
    have s5 := s4.trans sq
    have hp5 := sq _ _ hp4
    generalize upd H4 q (.lst [V.int (Vbceah.verdict t l : Nat), V.int (if decide (l.length ≤ t) = true then 1 else 0)]) = H5 at sq hqq s5 hp5
    have hc := candidates_le t l
    refine ⟨_, rfl, _, rfl, _, rfl, p, t, l, rfl, hp5, by omega, fun H6 u g6 n6 e6 => ?_⟩
    refine ⟨u, _, rfl, e6, by rw [iv_len]; omega, fun H7 v g7 n7 e7 => ?_⟩
    have s7 := (s5.trans g6).trans g7
    refine ⟨q, v, _, _, rfl, rfl, g7 _ _ (g6 _ _ hqq), e7, ?_, fun x hx => k' _ x (same_upd s7 (s7.free hx)) (s7.free hx) ?_⟩
    · have el : (iv (Vbceah.candidates t l)).length = (Vbceah.candidates t l).length := iv_len _
      rw [List.length_cons, sizeLine_eq]
      show 2 + (_ + 1) ≤ _
      omega
    · rw [upd_same, iv_len]
      by_cases z : l.length ≤ t
      · rw [decide_eq_true z, if_pos z]
        rfl
      · rw [decide_eq_false z, if_neg z]
        rfl
  · rw [Bool.eq_false_iff.mpr fun z => c (votes_iff.mp z)]
    rw [step_judge_no hl c] at k'
    exact iteT ⟨_, rfl, (by show 1 ≤ sizeLine; decide), fun q hq => k' _ q (same_upd g1 (g1.free hq)) (g1.free hq) upd_same⟩
/-! ### more -/
abbrev sTMore : Stmt := topS 54
theorem scTMore : FnScope ["room", "numbers"] ["room", "numbers"] (C8.fnScope sTMore) := C8.fnScope_by (by decide +kernel)
theorem cal_tMore (h : Has K mg "tell_more" ["room", "numbers"] sTMore) (Ar : C8.Cal P w K mg base 2 "are_workings" spAreW []) (Mo : C8.Cal P w K mg base 3 "more_workings" spMoreW []) : C8.Cal P w K mg base 4 "tell_more" (spAct C (gOneL 15) preE) [] := by
  obtain ⟨f, fd, D, b⟩ := h
  refine C8.cal0 D b .nil scTMore (fun vs H Q E h => ?_) fun cdv A' outer s H vs Q E hr h => ⟨_,
    pss_cons (ps_if (pt_not (pt_val (C8.pe_c Ar hr (by decide) (by rfl) (pa_cons (pv 1) pa_nil)))) (pss_one (ps_ret (pe_lst (pa_cons (pe_un un_neg pe_int) pa_nil)))) pss_nil)
    (pss_one (ps_ret (C8.pe_c Mo hr (by decide) (by rfl) (pa_cons (pe_ix ix_list (pv 1) pe_int (fun _ _ => rfl)) (pa_cons (pe_slice sl_list (pv 1) (po_some pe_int) po_none) pa_nil))))), ?_⟩
  · obtain ⟨G, r, na, ba, ea, s, ns, rfl, _⟩ := h
    rfl
  obtain ⟨G, r, na, ba, ea, s, ns, rfl, hR, hN, g, ⟨d, l, rfl, hl⟩, k⟩ := tells (fun _ _ => tells_more) h
  have k' : ∀ H' p, Same H H' → H p = none → H' p = some (.lst (iv (Vbceah.step s [[15, d], l]).2)) → Q (.ref p) H' := k
  refine ⟨_, rfl, na, d, l, rfl, hN, hl, fun H1 g1 => ⟨_, rfl, ?_⟩⟩
  by_cases c : votesOk d l
  · rw [votes_iff.mpr c]
    refine iteF ?_
    obtain ⟨t, rfl⟩ : ∃ t : Nat, d = t := ⟨d.toNat, by have := c.1; omega⟩
    rw [step_more hl c] at k'
    refine ⟨_, rfl, na, _, 0, _, rfl, rfl, .inl (.inl (g1 _ _ hN)), at_head _ l, _, rfl, _, rfl, na, _, rfl, .inl (.inl (g1 _ _ hN)), fun p hp => ?_⟩
    have s1 := g1.trans (same_new (o := .lst (cutV (iv ((t : Int) :: l)) (some 1) none)) hp)
    have hp1 : upd H1 p (.lst (cutV (iv ((t : Int) :: l)) (some 1) none)) p = some (.lst (iv l)) := by rw [upd_same, cut_tail]
    generalize upd H1 p (.lst (cutV (iv ((t : Int) :: l)) (some 1) none)) = H2 at s1 hp1
    exact ⟨p, t, l, rfl, hp1, by omega, by have := c.2.1; omega, fun H3 q g3 n3 e3 => k' H3 q (s1.trans g3) (s1.free n3) e3⟩
  · rw [Bool.eq_false_iff.mpr fun z => c (votes_iff.mp z)]
    rw [step_more_no hl c] at k'
    exact iteT ⟨_, rfl, (by show 1 ≤ sizeLine; decide), fun q hq => k' _ q (same_upd g1 (g1.free hq)) (g1.free hq) upd_same⟩
end
end Rm

set_option Elab.async false
set_option linter.all false
set_option maxRecDepth 100000
set_option maxHeartbeats 4000000
/-! blocks, swap, books. -/
namespace Rm
open PySem PySem.Spec PyProof.Rows L2
def rowB (b : Vbceah.Book) : List Int := (b.length : Int) :: VbceCore.ints (b.flatMap fun x => [x.first, x.second])
def pairsB (b : Vbceah.Book) : List Int := VbceCore.ints (b.flatMap fun x => [x.first, x.second])
theorem pairsB_snoc (b : Vbceah.Book) (x : Vbceah.Sheet) : pairsB (b ++ [x]) = pairsB b ++ [(x.first : Int), (x.second : Int)] := by
  unfold pairsB VbceCore.ints
  rw [List.flatMap_append, List.map_append]
  rfl
theorem pairsB_len : ∀ b : Vbceah.Book, (pairsB b).length = 2 * b.length
  | [] => rfl
  | x :: b => by
    have i := pairsB_len b
    show (pairsB b).length + 2 = 2 * (b.length + 1)
    omega
theorem rowB_len (b : Vbceah.Book) : (rowB b).length = 2 * b.length + 1 := by
  have := pairsB_len b
  show (pairsB b).length + 1 = _
  omega
theorem rows_len : ∀ {l : List Vbceah.Book}, (∀ b ∈ l, 1 ≤ b.length ∧ b.length ≤ 6) → (l.flatMap rowB).length ≤ 13 * l.length
  | [], _ => Nat.le_refl _
  | b :: l, h => by
    have i := rows_len (l := l) fun b hb => h b (List.mem_cons_of_mem _ hb)
    have := (h b (List.mem_cons_self ..)).2
    rw [List.flatMap_cons, List.length_append, rowB_len, List.length_cons]
    omega
theorem rows_step {l : List Vbceah.Book} {i : Nat} {b : Vbceah.Book} (h : l[i]? = some b) : (l.take (i + 1)).flatMap rowB = (l.take i).flatMap rowB ++ rowB b := by
  rw [take_get h, List.flatMap_append]
  simp
section
variable {P : Program} {w : World} {K : PySem.W.Frag} {mg : Str → Option Value} {base : Heap} {C : Addr}
/-! ### blocks -/
abbrev sBlocks : Stmt := topS 55
theorem scBlocks : FnScope ["room", "numbers", "book"] ["room", "numbers"] (C8.fnScope sBlocks) := C8.fnScope_by (by decide +kernel)
theorem cal_blocks (h : Has K mg "tell_blocks" ["room", "numbers"] sBlocks) (T : RoomTxt K C) (Is : C8.Cal P w K mg base 1 "is_book" (spIsBook C) []) (He : C8.Cal P w K mg base 1 "has_empty_times" (spHasE C) []) (Be : C8.Cal P w K mg base 6 "block_end" spBlockEnd []) :
    C8.Cal P w K mg base 7 "tell_blocks" (spAct C (gList 16) preL) [] := by
  obtain ⟨f, fd, D, b⟩ := h
  refine C8.cal0 D b .nil scBlocks (fun vs H Q E h => ?_) fun cdv A' outer s H vs Q E hr h => ⟨_,
    pss_cons (ps_for PassesOwn.never rfl (pi_list (pv 1)) (pg_name (i := 2) scBlocks.nd rfl (.inl rfl))
      (pss_one (ps_if (PW.pt (pw_or (pt_not (pt_val (C8.pe_c Is hr (by decide) (by rfl) (pa_cons (pv 0) (pa_cons (pv 2) pa_nil))))) (pw_or1 (pt_cmpR op_gt (pe_bm PySem.F.plainAttrs_list PySem.F.slot_list_count PySem.F.type_list_count mt_lcount (pv 1) (pa_cons (pv 2) pa_nil)) pe_int (nomark _)))))
        (pss_one (ps_ret (pe_lst (pa_cons (pe_un un_neg pe_int) pa_nil)))) pss_nil)))
    (pss_cons (ps_if (pt_val (C8.pe_c He hr (by decide) (by rfl) (pa_cons (pv 0) pa_nil))) (pss_one (ps_ret (pe_lst (pa_cons (pe_un un_neg pe_int) pa_nil)))) pss_nil)
    (pss_one (ps_ret (pe_lst (pa_cons (C8.pe_c Be hr (by decide) (by rfl) (pa_cons (pe_fld (pv 0) rfl) (pa_cons (pv 1) pa_nil))) pa_nil))))), ?_⟩
  · obtain ⟨G, r, na, ba, ea, s, ns, rfl, _⟩ := h
    rfl
  obtain ⟨G, r, na, ba, ea, s, ns, rfl, hR, hN, g, hl, k⟩ := tells (fun _ _ => tells_blocks) h
  obtain ⟨dx, oa, hr1, hB, hE, hO⟩ := hR.flds
  have h4 := g.four
  have h12 := g.twelve
  have hl' : ns.length ≤ 30 := hl
  have k' : ∀ H' p, Same H H' → H p = none → H' p = some (.lst (iv (Vbceah.step s [[16], ns]).2)) → Q (.ref p) H' := k
  have bad : ∀ H1, Same H H1 → ¬ (ns.Nodup ∧ (ns.all fun b => VbceCore.isBetween b 0 ((s.books.length : Int) - 1)) = true) → ∀ q, H1 q = none → Q (.ref q) (upd H1 q (.lst [.int (-1)])) := fun H1 g1 c q hq => by
    refine k' _ q (same_upd g1 (g1.free hq)) (g1.free hq) ?_
    rw [step_blocks_no c]
    exact upd_same
  refine ⟨_, rfl, na, rfl, ⟨_, .inl (.inl hN)⟩, for_list (K := K) (a := na) (xs := iv ns) (fun i σ H' => ∃ v : Option V, σ = [some (.ref r), some (.ref na), v] ∧ (∀ x ∈ ns.take i, Vbceah.isBook s x = true ∧ ns.count x ≤ 1) ∧ Same H H')
    ⟨none, rfl, fun x hx => (by rw [List.take_zero] at hx; exact nomatch hx), Same.refl H⟩ (fun i σ H' _ ⟨_, _, _, s5⟩ => .inl (.inl (s5 _ _ hN))) ?_ ?_⟩
  · rintro i x σ H' hi ⟨v, rfl, hI, s5⟩
    obtain ⟨n, hn, rfl⟩ := map_get hi
    have hmem : n ∈ ns := List.mem_of_getElem? hn
    refine ⟨_, rfl, _, rfl, G, r, ba, ea, s, n, rfl, hR.stays s5, fun H1 g1 => ⟨_, rfl, ?_⟩⟩
    have s6 := s5.trans g1
    cases c : Vbceah.isBook s n with
    | false =>
      refine iteT (iteT ⟨_, rfl, (by show 1 ≤ sizeLine; decide), fun q hq => bad H1 s6 (fun z => ?_) q hq⟩)
      have : VbceCore.isBetween n 0 ((s.books.length : Int) - 1) = true := List.all_eq_true.mp z.2 n hmem
      have c' : VbceCore.isBetween n 0 ((s.books.length : Int) - 1) = false := c
      rw [c'] at this
      cases this
    | true =>
      refine iteF ⟨_, rfl, .inl ⟨rfl, _, .inl (.inl (s6 _ _ hN))⟩, _, rfl, na, ns, n, rfl, rfl, .inl (.inl (s6 _ _ hN)), _, _, rfl, rfl, _, rfl, ifB (fun c2 => ?_) fun c2 => ?_⟩
      · have c2' : 1 < ns.count n := by
          have e := of_decide_eq_true c2
          omega
        refine ⟨_, rfl, (by show 1 ≤ sizeLine; decide), fun q hq => bad H1 s6 (fun z => ?_) q hq⟩
        have := List.nodup_iff_count.mp z.1 n
        omega
      · have c2' : ns.count n ≤ 1 := by
          have e := of_decide_eq_false c2
          omega
        refine ⟨_, rfl, fun x hx => ?_, s6⟩
        rw [take_get hn] at hx
        rcases List.mem_append.mp hx with hx | hx
        · exact hI x hx
        · rw [List.mem_singleton.mp hx]
          exact ⟨c, c2'⟩
  · rintro σ H' ⟨v, rfl, hI, s5⟩
    rw [iv_len, List.take_length] at hI
    have hall : (ns.all fun b => VbceCore.isBetween b 0 ((s.books.length : Int) - 1)) = true := List.all_eq_true.mpr fun x hx => (hI x hx).1
    have hnd : ns.Nodup := List.nodup_iff_count.mpr fun a => by
      by_cases m : a ∈ ns
      · exact (hI a m).2
      · rw [List.count_eq_zero_of_not_mem m]
        exact Nat.zero_le _
    obtain ⟨o, eo, _, hlt⟩ := nat_list hall
    have nd : o.Nodup := ints_nodup.mp (by rw [← eo]; exact hnd)
    rw [eo, step_blocks nd hlt] at k'
    have hO' : OrderAt H na o := by
      show _ = some (HO.lst (nats o))
      rw [nats_ints, ← eo]
      exact hN
    refine ⟨_, rfl, G, r, ba, ea, s, rfl, hR.stays s5, fun H1 g1 => ⟨_, rfl, ?_⟩⟩
    have s6 := s5.trans g1
    by_cases c : s.empty1 = [] ∧ s.empty2 = []
    · rw [(emp_iff s).mpr c]
      rw [full_if c.1 c.2] at k'
      refine iteF ?_
      refine ⟨_, rfl, r, C, dx, _, _, rfl, s6 _ _ hr1, T.cl, T.nB, lkB .., _, rfl, ba, na, s.books, o, rfl, BooksAt.stays _ _ _ _ s6 hB, OrderAt.stays _ _ _ _ s6 hO', by omega, h12, nd, hlt, fun H2 g2 => ?_⟩
      have s7 := s6.trans g2
      exact ⟨(by show 1 ≤ sizeLine; decide), fun q hq => k' _ q (same_upd s7 (s7.free hq)) (s7.free hq) upd_same⟩
    · have ef : (s.empty1.isEmpty && s.empty2.isEmpty) = false := Bool.eq_false_iff.mpr fun z => c ((emp_iff s).mp z)
      rw [ef]
      rw [full_no c] at k'
      exact iteT ⟨_, rfl, (by show 1 ≤ sizeLine; decide), fun q hq => k' _ q (same_upd s6 (s6.free hq)) (s6.free hq) upd_same⟩
/-! ### swap -/
abbrev sSwap : Stmt := topS 56
theorem scSwap : FnScope ["room", "numbers", "place", "swapped"] ["room", "numbers"] (C8.fnScope sSwap) := C8.fnScope_by (by decide +kernel)
theorem ord_get {o : List Nat} {k : Nat} (h : k < o.length) : (nats o)[k]? = some (.int (o.getD k 0 : Nat)) := nats_get (by rw [List.getD_eq_getElem?_getD, List.getElem?_eq_getElem h]; rfl)
theorem cal_swap (h : Has K mg "tell_swap" ["room", "numbers"] sSwap) (T : RoomTxt K C) (O : Own mg) (ls : mg "list" = none) (Al : C8.Cal P w K mg base 4 "standings_along" spAlong []) :
    C8.Cal P w K mg base 5 "tell_swap" (spAct C (gOne 17) preO) [] := by
  obtain ⟨f, fd, D, b⟩ := h
  refine C8.cal0 D b .nil scSwap (fun vs H Q E h => ?_) fun cdv A' outer s H vs Q E hr h => ⟨_,
    pss_cons (ps_set (i := 2) scSwap.nd rfl (.inl rfl) (pe_ix ix_list (pv 1) pe_int (fun _ _ => rfl)))
    (pss_cons (ps_if (pt_not (pt_chain op_le op_le pe_int (pv 2) (pe_op op_sub (pe_callB call_len_seq (by rfl) O.len PySem.boot_len (pa_cons (pe_fld (pv 0) rfl) pa_nil)) pe_int))) (pss_one (ps_ret (pe_lst (pa_cons (pe_un un_neg pe_int) pa_nil)))) pss_nil)
    (pss_cons (ps_set (i := 3) scSwap.nd rfl (.inl rfl) (pe_callTy call_list_of (by rfl) ls (by decide +kernel) (pa_cons (pe_fld (pv 0) rfl) pa_nil)))
    (pss_cons (ps_asg (pe_ix ix_list (pe_fld (pv 0) rfl) (pe_op op_add (pv 2) pe_int) (fun _ _ => rfl)) (pg_sub (pv 3) (pv 2) set_list))
    (pss_cons (ps_asg (pe_ix ix_list (pe_fld (pv 0) rfl) (pv 2) (fun _ _ => rfl)) (pg_sub (pv 3) (pe_op op_add (pv 2) pe_int) set_list))
    (pss_one (ps_ret (pe_callTy call_list_of (by rfl) ls (by decide +kernel) (pa_cons (pe_ix ix_tup (pe_ix ix_list (C8.pe_c Al hr (by decide) (by rfl) (pa_cons (pe_fld (pv 0) rfl) (pa_cons (pe_fld (pv 0) rfl) (pa_cons (pv 3) pa_nil)))) (pe_un un_neg pe_int) (fun _ _ => rfl)) pe_int (fun _ _ => rfl)) pa_nil)))))))), ?_⟩
  · obtain ⟨G, r, na, ba, ea, s, ns, rfl, _⟩ := h
    rfl
  obtain ⟨G, r, na, ba, ea, s, ns, rfl, hR, hN, g, ⟨d, rfl⟩, k⟩ := tells (fun _ _ => tells_swap) h
  obtain ⟨dx, oa, hr1, hB, hE, hO⟩ := hR.flds
  have h4 := g.four
  have h12 := g.twelve
  have ho := runs_len g.runs
  have k' : ∀ H' p, Same H H' → H p = none → H' p = some (.lst (iv (Vbceah.step s [[17, d]]).2)) → Q (.ref p) H' := k
  have h0 : atI (iv [d]) 0 = some (.int d) := atI_nat (xs := iv [d]) (j := 0) rfl
  have hO' : H oa = some (.lst (nats s.order)) := hO
  have bad : (¬ ∃ k : Nat, d = k ∧ k + 1 < s.order.length) → ∀ q, H q = none → Q (.ref q) (upd H q (.lst [.int (-1)])) := fun c q hq => by
    refine k' _ q (same_new hq) hq ?_
    rw [step_swap_no c]
    exact upd_same
  refine ⟨_, rfl, na, _, 0, _, rfl, rfl, .inl (.inl hN), h0, ?_⟩
  refine ⟨_, rfl, _, _, rfl, rfl, _, rfl, ifB' (fun c1 => ?_) fun c1 => ?_⟩
  · have c1' : ¬ (0 ≤ d) := by simpa using c1
    exact ⟨_, rfl, iteT ⟨_, rfl, (by show 1 ≤ sizeLine; decide), fun q hq => bad (fun ⟨j, e, _⟩ => c1' (by omega)) q hq⟩⟩
  have c1' : 0 ≤ d := by simpa using c1
  refine ⟨_, rfl, r, C, dx, _, _, rfl, hr1, T.cl, T.nO, lkO .., oa, _, rfl, .inl (.inl (.inl hO')), _, _, rfl, rfl, _, _, rfl, rfl, _, rfl, ?_⟩
  rw [nats_len]
  by_cases c2 : ¬ d ≤ (s.order.length : Int) - 2
  · rw [decide_eq_false c2]
    exact iteT ⟨_, rfl, (by show 1 ≤ sizeLine; decide), fun q hq => bad (fun ⟨j, e, _⟩ => c2 (by omega)) q hq⟩
  rw [decide_eq_true (by omega)]
  refine iteF ?_
  obtain ⟨j, rfl⟩ : ∃ j : Nat, d = j := ⟨d.toNat, by omega⟩
  have hj : j + 1 < s.order.length := by omega
  rw [step_swap hj] at k'
  refine ⟨_, rfl, r, C, dx, _, _, rfl, hr1, T.cl, T.nO, lkO .., oa, _, rfl, .inl (.inl (.inl hO')), fun L hL => ?_⟩
  have s1 := same_new (o := .lst (nats s.order)) hL
  have hLL : upd H L (.lst (nats s.order)) L = some (.lst (nats s.order)) := upd_same
  generalize upd H L (.lst (nats s.order)) = H1 at s1 hLL
  have ej : ((j : Int) + 1) = ((j + 1 : Nat) : Int) := by omega
  have hg1 : atI (nats s.order) ((j : Int) + 1) = some (.int (s.order.getD (j + 1) 0 : Nat)) := by rw [ej]; exact atI_nat (ord_get hj)
  refine ⟨_, rfl, r, C, dx, _, _, rfl, s1 _ _ hr1, T.cl, T.nO, lkO .., _, rfl, _, _, rfl, rfl, oa, _, _, _, rfl, rfl, .inl (.inl (s1 _ _ hO')), hg1, ?_⟩
  refine ⟨_, rfl, _, rfl, L, _, _, j, rfl, rfl, hLL, ?_, ?_⟩
  · unfold ixN
    rw [nats_len, if_pos (by omega), if_pos (by omega), Int.toNat_natCast]
  rw [nats_set1]
  have s2 : Same H (upd H1 L (.lst (nats (s.order.set j (s.order.getD (j + 1) 0))))) := same_upd s1 hL
  have hL2 : upd H1 L (.lst (nats (s.order.set j (s.order.getD (j + 1) 0)))) L = some (.lst (nats (s.order.set j (s.order.getD (j + 1) 0)))) := upd_same
  generalize upd H1 L (.lst (nats (s.order.set j (s.order.getD (j + 1) 0)))) = H2 at s2 hL2
  refine ⟨_, rfl, r, C, dx, _, _, rfl, s2 _ _ hr1, T.cl, T.nO, lkO .., _, rfl, oa, _, _, _, rfl, rfl, .inl (.inl (s2 _ _ hO')), atI_nat (ord_get (by omega)), ?_⟩
  refine ⟨_, rfl, _, rfl, _, _, rfl, rfl, L, _, _, j + 1, rfl, rfl, hL2, ?_, ?_⟩
  · unfold ixN
    rw [nats_len, List.length_set, if_pos (by omega), if_pos (by omega)]
    congr 1
  rw [nats_set1, ← swapped_set hj]
  have s3 : Same H (upd H2 L (.lst (nats (swapped s.order j)))) := same_upd s2 hL
  have hL3 : OrderAt (upd H2 L (.lst (nats (swapped s.order j)))) L (swapped s.order j) := upd_same
  generalize upd H2 L (.lst (nats (swapped s.order j))) = H3 at s3 hL3
  have pm := swapped_perm hj
  have R := runs_perm pm g.runs
  have hlen := pm.length_eq
  refine ⟨_, rfl, r, C, dx, _, _, rfl, s3 _ _ hr1, T.cl, T.nB, lkB .., _, rfl, r, C, dx, _, _, rfl, s3 _ _ hr1, T.cl, T.nE, lkE .., _, rfl, ?_⟩
  refine ⟨ba, ea, L, s.books, s.empty1, s.empty2, _, rfl, BooksAt.stays _ _ _ _ s3 hB, EmptAt.stays _ _ _ _ s3 hE, hL3, g.u1, g.u2, by omega, by omega, R, fun H4 p g4 hT => ?_⟩
  obtain ⟨as, z, hz, ⟨pa, ca, hz1, _, hz2⟩⟩ := last_at hT
  have s4 := s3.trans g4
  refine ⟨_, rfl, p, _, _, _, rfl, rfl, .inl (.inl hz), atI_last _ _, z, _, 1, _, rfl, rfl, .inl (.inl hz1), rfl, ca, _, rfl, .inr (.inl (.inl hz2)), fun q hq => ?_⟩
  refine k' _ q (same_upd s4 (s4.free hq)) (s4.free hq) ?_
  have el := lead0_eq (e1 := s.empty1) (e2 := s.empty2) R
  unfold lead0 at el
  rw [upd_same, el]
  rfl
/-! ### books -/
abbrev sBooks : Stmt := topS 57
abbrev nBooks : List Str := ["room", "numbers", "answer", "sheets", "sheet"]
theorem scBooks : FnScope nBooks ["room", "numbers"] (C8.fnScope sBooks) := C8.fnScope_by (by decide +kernel)
theorem cal_books (h : Has K mg "tell_books" ["room", "numbers"] sBooks) (T : RoomTxt K C) (O : Own mg) : C8.Cal P w K mg base 1 "tell_books" (spAct C (gStep [[18]]) any) [] := by
  obtain ⟨f, fd, D, b⟩ := h
  refine C8.cal0 D b .nil scBooks (fun vs H Q E h => ?_) fun cdv A' outer s H vs Q E hr h => ⟨_,
    pss_cons (ps_set (i := 2) scBooks.nd rfl (.inl rfl) (pe_lst (pa_cons (pe_callB call_len_seq (by rfl) O.len PySem.boot_len (pa_cons (pe_fld (pv 0) rfl) pa_nil)) pa_nil)))
    (pss_cons (ps_for PassesOwn.never rfl (pi_list (pe_fld (pv 0) rfl)) (pg_name (i := 3) scBooks.nd rfl (.inl rfl))
      (pss_cons (ps_expr (pe_bm PySem.F.plainAttrs_list PySem.F.slot_list_append PySem.F.type_list_append mt_append (pv 2) (pa_cons (pe_callB call_len_seq (by rfl) O.len PySem.boot_len (pa_cons (pv 3) pa_nil)) pa_nil)))
      (pss_one (ps_for PassesOwn.never rfl (pi_list (pv 3)) (pg_name (i := 4) scBooks.nd rfl (.inl rfl))
        (pss_one (ps_expr (pe_bm PySem.F.plainAttrs_list PySem.F.slot_list_extend PySem.F.type_list_extend Rx.mt_extT (pv 2) (pa_cons (pv 4) pa_nil))))))))
    (pss_one (ps_ret (pv 2)))), ?_⟩
  · obtain ⟨G, r, na, ba, ea, s, ns, rfl, _⟩ := h
    rfl
  obtain ⟨G, r, na, ba, ea, s, ns, rfl, hR, hN, g, _, k⟩ := tells (fun _ _ => tells_books) h
  obtain ⟨dx, oa, hr1, ⟨as, hb, hp⟩, hE, hO⟩ := hR.flds
  have h4 := g.four
  have elb : (as.map V.ref).length = s.books.length := by rw [List.length_map]; exact Paired.length hp
  refine ⟨_, rfl, r, C, dx, _, _, rfl, hr1, T.cl, T.nB, lkB .., ba, _, rfl, .inl (.inl (.inl hb)), (by show 1 ≤ sizeLine; decide), fun L hL => ?_⟩
  rw [elb]
  have s1 := same_new (o := .lst [V.int (s.books.length : Int)]) hL
  have hLL : upd H L (.lst [V.int (s.books.length : Int)]) L = some (.lst [V.int (s.books.length : Int)]) := upd_same
  generalize upd H L (.lst [V.int (s.books.length : Int)]) = H1 at s1 hLL
  refine ⟨_, rfl, r, C, dx, _, _, rfl, s1 _ _ hr1, T.cl, T.nB, lkB .., ba, rfl, ⟨_, .inl (.inl (s1 _ _ hb))⟩, for_list (K := K) (a := ba) (xs := as.map V.ref) (fun i σ H' => ∃ v3 v4 : Option V, σ = [some (.ref r), some (.ref na), some (.ref L), v3, v4] ∧ H' L = some (.lst (iv ((s.books.length : Int) :: (s.books.take i).flatMap rowB))) ∧ ∀ b o, H b = some o → H' b = some o)
    ⟨none, none, rfl, hLL, s1⟩ (fun i σ H' _ ⟨_, _, _, _, s5⟩ => .inl (.inl (s5 _ _ hb))) ?_ ?_⟩
  · rintro i x σ H' hi ⟨v3, v4, rfl, hLi, s5⟩
    obtain ⟨p, hpi, rfl⟩ := map_get hi
    obtain ⟨bk, hbi, ⟨ss, hb1, hb2⟩⟩ := LstOf.at hp hpi
    have elk : (ss.map V.ref).length = bk.length := by rw [List.length_map]; exact Paired.length hb2
    have h6 := (g.six bk (List.mem_of_getElem? hbi)).2
    have hrl : ((s.books.take i).flatMap rowB).length ≤ 52 := by
      have := rows_len (l := s.books.take i) fun b hb => g.six b (List.mem_of_mem_take hb)
      have e : (s.books.take i).length ≤ 4 := by rw [List.length_take]; omega
      omega
    have hb1' := s5 _ _ hb1
    refine ⟨_, rfl, .inl ⟨rfl, _, .inl (.inl hLi)⟩, _, rfl, p, _, rfl, .inl (.inl (.inl hb1')), L, _, _, rfl, rfl, hLi, ?_, ?_⟩
    · rw [iv_len, List.length_cons, sizeLine_eq]
      omega
    rw [elk]
    have s6 : ∀ b o, H b = some o → upd H' L (.lst (iv ((s.books.length : Int) :: (s.books.take i).flatMap rowB) ++ [V.int (bk.length : Int)])) b = some o := fun b o e => by
      rw [upd_ne (ne_of_none e hL)]
      exact s5 b o e
    have hL6 : upd H' L (.lst (iv ((s.books.length : Int) :: (s.books.take i).flatMap rowB) ++ [V.int (bk.length : Int)])) L = some (.lst (iv (((s.books.length : Int) :: (s.books.take i).flatMap rowB) ++ [(bk.length : Int)] ++ pairsB (bk.take 0)))) := by
      rw [upd_same, iv_append, iv_append]
      show _ = some (HO.lst (iv _ ++ [V.int (bk.length : Int)] ++ iv []))
      rw [show iv [] = [] from rfl, List.append_nil]
    generalize upd H' L (.lst (iv ((s.books.length : Int) :: (s.books.take i).flatMap rowB) ++ [V.int (bk.length : Int)])) = H6 at s6 hL6
    refine ⟨_, rfl, p, rfl, ⟨_, .inl (.inl (s6 _ _ hb1))⟩, for_list (K := K) (a := p) (xs := ss.map V.ref) (fun j σ H' => ∃ v4 : Option V, σ = [some (.ref r), some (.ref na), some (.ref L), some (.ref p), v4] ∧ H' L = some (.lst (iv (((s.books.length : Int) :: (s.books.take i).flatMap rowB) ++ [(bk.length : Int)] ++ pairsB (bk.take j)))) ∧ ∀ b o, H b = some o → H' b = some o)
      ⟨v4, rfl, hL6, s6⟩ (fun j σ H' _ ⟨_, _, _, s7⟩ => .inl (.inl (s7 _ _ hb1))) ?_ ?_⟩
    · rintro j x σ H7 hj ⟨w4, rfl, hLj, s7⟩
      obtain ⟨q, hqj, rfl⟩ := map_get hj
      obtain ⟨sh, hs, hsp⟩ := LstOf.at hb2 hqj
      have hsp' : H q = some (.tup [.int sh.first, .int sh.second]) := hsp
      refine ⟨_, rfl, .inl ⟨rfl, _, .inl (.inl hLj)⟩, _, rfl, L, q, _, _, rfl, rfl, hLj, .inl (.inl (s7 _ _ hsp')), ?_, ?_⟩
      · rw [iv_len, List.length_append, List.length_append, pairsB_len, List.length_cons, List.length_take, sizeLine_eq]
        show _ + 1 + 1 + _ + 2 ≤ _
        omega
      · refine ⟨_, rfl, ?_, fun b o e => ?_⟩
        · rw [upd_same, take_get hs, pairsB_snoc, ← List.append_assoc, iv_append _ [(sh.first : Int), (sh.second : Int)]]
          rfl
        · rw [upd_ne (ne_of_none e hL)]
          exact s7 b o e
    · rintro σ H7 ⟨w4, rfl, hLj, s7⟩
      rw [elk, List.take_length] at hLj
      refine ⟨_, _, rfl, ?_, s7⟩
      rw [hLj, rows_step hbi, List.append_assoc]
      rfl
  · rintro σ H' ⟨v3, v4, rfl, hLi, s5⟩
    rw [elb, List.take_length] at hLi
    exact ⟨_, rfl, k H' L s5 hL hLi⟩
end
end Rm

set_option Elab.async false
set_option linter.all false
set_option maxRecDepth 100000
set_option maxHeartbeats 4000000
/-! A list of calls is answered. -/
namespace Rm
open PySem PySem.Spec PyProof.Rows L2
/-- a row of the table of calls -/
structure Row (P : Program) (w : World) (K : PySem.W.Frag) (mg : Str → Option Value) (base : Heap) (C : Addr) (L : Nat) (es : Array DictEntry) (n : Int) (a k : Nat) : Prop where
  ex : ∃ (t f : Addr) (b : Bool) (g : Vbceah.State → List Int → Vbceah.State × List Int) (pre : List Int → Prop),
    PySem.findBy Value.isInt es n = some (.ref t) ∧ (∀ H : Hp, SqT K H t [.ref f, .int a, .bl b]) ∧ b = decide (k = 1) ∧ Held P w K mg base L f (spAct C g pre) ∧
    ∀ (s : Vbceah.State) (xs l : List Int), xs.length = a → l.length ≤ 30 → (k = 0 → l = []) → pre (xs ++ l) ∧ g s (xs ++ l) = Vbceah.step s (if k = 1 then [n :: xs, l] else [n :: xs])
theorem cut_mid {xs : List V} {p q : Nat} (h1 : p ≤ q) (h2 : q ≤ xs.length) : cutV xs (some (p : Int)) (some (q : Int)) = (xs.drop p).take (q - p) := by
  unfold cutV
  rw [HT.sIx_nat, HT.sIx_nat, Nat.min_eq_left h2, Nat.min_eq_left (Nat.le_trans h1 h2)]
theorem told_cons (a : List Int) (r : List (List Int)) : PyFlat.told (a :: r) = ((a.length : Int) :: a) ++ PyFlat.told r := by
  unfold PyFlat.told
  rw [List.flatMap_cons]
theorem played_cons (s : Vbceah.State) (c : List (List Int)) (r : List (List (List Int))) : PyFlat.played VbceahNeutral.step s (c :: r) = (Vbceah.step s c).2 :: PyFlat.played VbceahNeutral.step (Vbceah.step s c).1 r := rfl
theorem answers_raw {l : List Int} {raw : List (List (List Int))} (h : PyFlat.calls PyVbceah.shape l.length l = some raw) : PyVbceah.answers l = PyFlat.told (PyFlat.played VbceahNeutral.step VbceahNeutral.start raw) := by
  unfold PyVbceah.answers PyVbceah.calls
  rw [h]
  have e : raw.map PyVbceah.whole = raw := by
    have : PyVbceah.whole = id := funext whole_id
    rw [this, List.map_id]
  dsimp only
  rw [e]
theorem asked_raw {l : List Int} (h : PyVbceah.answers_asked l = true) : ∃ raw, PyFlat.calls PyVbceah.shape l.length l = some raw ∧ raw.length ≤ 400 ∧ raw.all VbceahNeutral.asked1 = true := by
  unfold PyVbceah.answers_asked at h
  cases e : PyFlat.calls PyVbceah.shape l.length l with
  | none => rw [e] at h; cases h
  | some raw =>
    rw [e] at h
    have h' : (PyFlat.atMost 400 raw && PyInside.calls PyVbceah.bound raw && VbceahNeutral.asked (raw.map PyVbceah.whole)) = true := h
    rw [Bool.and_eq_true, Bool.and_eq_true] at h'
    have e2 : raw.map PyVbceah.whole = raw := by
      have : PyVbceah.whole = id := funext whole_id
      rw [this, List.map_id]
    rw [e2] at h'
    have h3 := h'.2
    unfold VbceahNeutral.asked at h3
    rw [Bool.and_eq_true] at h3
    exact ⟨raw, rfl, of_decide_eq_true h'.1.1, h3.1⟩
theorem RoomAt.given_upd {C G : Addr} {H : Hp} {r ba ea : Addr} {s : Vbceah.State} {o : HO} (h : RoomAt C G H r ba ea s) (nr : G ≠ r) (hG : ∃ xs, H G = some (.lst xs)) : RoomAt C G (upd H G o) r ba ea s := by
  obtain ⟨dx, oa, p1, q1, as, hr1, hb1, hbp, he1, he2, he3, ho1, d1, d2, d3, d4, d5, d6, d7, d8, m1, m2, m3, m4, m5, m6⟩ := h
  refine ⟨dx, oa, p1, q1, as, ?_, ?_, pmem hbp fun a b ha hb => book_upd hG (m6 a ha) hb, ?_, breaks_upd hG m4 he2, breaks_upd hG m5 he3, ?_, d1, d2, d3, d4, d5, d6, d7, d8, m1, m2, m3, m4, m5, m6⟩
  · rw [upd_ne (fun z => nr z.symm)]; exact hr1
  · rw [upd_ne (fun z => m1 z.symm)]; exact hb1
  · rw [upd_ne (fun z => m2 z.symm)]; exact he1
  · show _ = some (HO.lst _)
    rw [upd_ne m3]
    exact ho1
section
variable {P : Program} {w : World} {K : PySem.W.Frag} {mg : Str → Option Value} {base : Heap} {C : Addr}
def spAns (K : PySem.W.Frag) : Sp := fun vs H Q _ => ∃ (a : Addr) (ns : List Int), vs = [.ref a] ∧ SqL K H a (iv ns) ∧ ns.length ≤ 14000 ∧ PyVbceah.answers_asked ns = true ∧
  ∀ (H' : Hp) (p : Addr), H' p = some (.lst (iv (PyVbceah.answers ns))) → Q (.ref p) H'
abbrev sAns : Stmt := topS 60
abbrev nAns : List Str := ["calls", "room", "given", "place", "answer_call", "arguments", "has_list", "start", "numbers", "answer"]
theorem scAns : FnScope nAns ["calls"] (C8.fnScope sAns) := C8.fnScope_by (by decide +kernel)
/-- what holds between two calls -/
structure Mid (K : PySem.W.Frag) (C : Addr) (H : Hp) (a r G : Addr) (ns : List Int) (i : Nat) (f : Nat) (raw : List (List (List Int))) (s : Vbceah.State) (gv : List Int) (H' : Hp) : Prop where
  le : i ≤ ns.length
  rest : PyFlat.calls PyVbceah.shape f (ns.drop i) = some raw
  told : gv ++ PyFlat.told (PyFlat.played VbceahNeutral.step s raw) = PyVbceah.answers ns
  good : Good s
  asked : raw.all VbceahNeutral.asked1 = true
  few : gv.length + 101 * raw.length ≤ 40400
  room : ∃ ba ea, RoomAt C G H' r ba ea s ∧ H ba = none ∧ H ea = none
  given : H' G = some (.lst (iv gv))
  same : Same H H'
theorem ok_answers {f : Addr} {fd : FuncData} (Df : C8.Def K mg "answers" sAns f fd) (O : Own mg) (Mr : C8.Mak P w K mg base 2 "Room" C (spInit C) []) {c : Addr} {es : Array DictEntry} (hC : mg "CALLS" = some (.ref c)) (D : Rx.IntDict K c es)
    (Tab : ∀ (n : Int) (a k : Nat), PyVbceah.shape n = some (a, k) → Row P w K mg base C 10 es n a k) : FnOk P w K mg base C8.CX0 11 f fd ["calls"] (spAns K) := by
  refine C8.fn0 Df.fn scAns (fun vs H Q E h => ?_) fun cdv A' outer s H vs Q E hr h => ⟨_,
    pss_cons (ps_set (i := 1) scAns.nd rfl (.inl rfl) (pe_mk0 Mr hr (by decide) (by rfl)))
    (pss_cons (ps_set (i := 2) scAns.nd rfl (.inl rfl) (pe_lst pa_nil))
    (pss_cons (ps_set (i := 3) scAns.nd rfl (.inl rfl) pe_int)
    (pss_cons (ps_while PassesOwn.never (pt_cmpR op_lt (pv 3) (pe_callB call_len_seq (by rfl) O.len PySem.boot_len (pa_cons (pv 0) pa_nil)) (nomark _))
      (pss_cons (ps_asg (pe_ix Rx.ix_int (C8.pe_gc (v := .ref c) (by rfl) ⟨_, hC, rfl⟩) (pe_ix ix_list (pv 0) (pv 3) (fun _ _ => rfl)) (fun _ _ => rfl)) (pg_tup rfl (pgs_cons (pg_name (i := 4) scAns.nd rfl (.inl rfl)) (pgs_cons (pg_name (i := 5) scAns.nd rfl (.inl rfl)) (pgs_cons (pg_name (i := 6) scAns.nd rfl (.inl rfl)) pgs_nil)))))
      (pss_cons (ps_set (i := 7) scAns.nd rfl (.inl rfl) (pe_op op_add (pv 3) pe_int))
      (pss_cons (ps_set (i := 3) scAns.nd rfl (.inl rfl) (pe_op op_add (pv 7) (pv 5)))
      (pss_cons (ps_set (i := 8) scAns.nd rfl (.inl rfl) (pe_slice sl_list (pv 0) (po_some (pv 7)) (po_some (pv 3))))
      (C8.pss_cut (ps_if (pt_val (pv 6))
        (pss_cons (ps_set (i := 7) scAns.nd rfl (.inl rfl) (pe_op op_add (pv 3) pe_int))
        (pss_cons (ps_set (i := 3) scAns.nd rfl (.inl rfl) (pe_op op_add (pv 7) (pe_ix ix_list (pv 0) (pv 3) (fun _ _ => rfl))))
        (pss_one (ps_expr (pe_bm PySem.F.plainAttrs_list PySem.F.slot_list_extend PySem.F.type_list_extend mt_extend (pv 8) (pa_cons (pe_slice sl_list (pv 0) (po_some (pv 7)) (po_some (pv 3))) pa_nil)))))) pss_nil)
      (pss_cons (ps_set (i := 9) scAns.nd rfl (.inl rfl) (Rx.pe_callH (i := 4) (hr.mono (by decide : 10 ≤ 10)) rfl (.inl rfl) (pa_cons (pv 1) (pa_cons (pv 8) pa_nil))))
      (pss_cons (ps_expr (pe_bm PySem.F.plainAttrs_list PySem.F.slot_list_append PySem.F.type_list_append mt_append (pv 2) (pa_cons (pe_callB call_len_seq (by rfl) O.len PySem.boot_len (pa_cons (pv 9) pa_nil)) pa_nil)))
      (pss_one (ps_expr (pe_bm PySem.F.plainAttrs_list PySem.F.slot_list_extend PySem.F.type_list_extend mt_extend (pv 2) (pa_cons (pv 9) pa_nil))))))))))))
    (pss_one (ps_ret (pv 2)))))), ?_⟩
  · obtain ⟨a, ns, rfl, _⟩ := h
    rfl
  obtain ⟨a, ns, rfl, hS, hz, hask, k⟩ := h
  obtain ⟨raw0, hraw, h400, hall⟩ := asked_raw hask
  intro r dx nr nd ne
  refine ⟨r, dx, rfl, upd_same, fun H1 ba ea s1 hR hba hea => ⟨rfl, ?_⟩⟩
  have g1 : Same H H1 := Same.made nr nd s1
  have hba' : H ba = none := by
    by_cases c1 : ba = r
    · rw [c1]; exact nr
    · rw [upd_ne c1] at hba
      by_cases c2 : ba = dx
      · rw [c2]; exact nd
      · rw [upd_ne c2] at hba; exact hba
  have hea' : H ea = none := by
    by_cases c1 : ea = r
    · rw [c1]; exact nr
    · rw [upd_ne c1] at hea
      by_cases c2 : ea = dx
      · rw [c2]; exact nd
      · rw [upd_ne c2] at hea; exact hea
  refine ⟨(by show 0 ≤ sizeLine; decide), fun G hG => ?_⟩
  have hG0 := g1.free hG
  have m0 : Mid K C H a r G ns 0 ns.length raw0 Vbceah.start [] (upd H1 G (.lst [])) := by
    refine ⟨Nat.zero_le _, hraw, ?_, good_start, hall, by simp only [List.length_nil]; omega, ⟨ba, ea, (hR G hG).stays (same_new hG), hba', hea'⟩, upd_same, same_upd g1 hG0⟩
    rw [answers_raw hraw, List.nil_append]
    rfl
  generalize upd H1 G (.lst []) = H2 at m0
  refine ⟨fun m σ H' => ∃ (i f : Nat) (raw : List (List (List Int))) (s : Vbceah.State) (gv : List Int) (v4 v5 v6 v7 v8 v9 : Option V), m = ns.length - i ∧ σ = [some (.ref a), some (.ref r), some (.ref G), some (.int i), v4, v5, v6, v7, v8, v9] ∧ Mid K C H a r G ns i f raw s gv H', ⟨_, 0, _, _, _, _, none, none, none, none, none, none, rfl, rfl, m0⟩, ?_⟩
  rintro m σ H' ⟨i, f0, raw, s, gv, v4, v5, v6, v7, v8, v9, rfl, rfl, M⟩
  have hS' : SqL K H' a (iv ns) := M.same.seq hS
  refine ⟨_, rfl, _, rfl, a, _, rfl, .inl hS', _, _, rfl, rfl, _, rfl, ?_⟩
  rw [iv_len]
  refine ifB' (fun c1 => ?_) fun c1 => ?_
  · have c1' : ¬ ((i : Int) < ns.length) := by simpa using c1
    have ei : i = ns.length := by have := M.le; omega
    have hr0 := M.rest
    have ed : ns.drop i = [] := List.drop_eq_nil_of_le (by omega)
    rw [ed] at hr0
    have er : raw = [] := by
      cases f0 <;> exact (Option.some.inj hr0).symm
    have ht := M.told
    rw [er] at ht
    have ht' : gv = PyVbceah.answers ns := by
      rw [← ht]
      show gv = gv ++ []
      rw [List.append_nil]
    exact ⟨_, rfl, k H' G (by rw [← ht']; exact M.given)⟩
  have c1' : i < ns.length := by have c : ((i : Int) < ns.length) := by simpa using c1
                                 omega
  obtain ⟨n, ka, kk, f1, raw1, hn, hshape, hle, hpar⟩ := parse_turn c1' M.rest
  obtain ⟨t, fn, b, g, pre, hfind, hT, hb, held, hg⟩ := (Tab n ka kk hshape).ex
  refine ⟨fun σ' H3 => ∃ (i' f' : Nat) (raw' : List (List (List Int))) (s' : Vbceah.State) (gv' : List Int) (v4 v5 v6 v7 v8 v9 : Option V), i < i' ∧ σ' = [some (.ref a), some (.ref r), some (.ref G), some (.int i'), v4, v5, v6, v7, v8, v9] ∧ Mid K C H a r G ns i' f' raw' s' gv' H3,
    fun σ' H3 ⟨i', f', raw', s', gv', w4, w5, w6, w7, w8, w9, z1, z2, z3⟩ => ⟨ns.length - i', by have := z3.le; omega, i', f', raw', s', gv', w4, w5, w6, w7, w8, w9, rfl, z2, z3⟩, ?_⟩
  refine ⟨_, rfl, _, rfl, a, _, _, _, rfl, rfl, hS', atI_nat (iv_get hn), c, es, n, _, .ref t, rfl, rfl, D, hfind, rfl, t, _, rfl, hT _, rfl, _, _, rfl, _, _, rfl, _, _, rfl, rfl, ?_⟩
  refine ⟨_, rfl, _, _, rfl, rfl, ?_⟩
  refine ⟨_, rfl, _, rfl, _, _, rfl, rfl, ?_⟩
  refine ⟨_, rfl, _, rfl, _, rfl, _, rfl, _, rfl, a, _, rfl, hS', fun na hna => ?_⟩
  have ecut : cutV (iv ns) (some ((i : Int) + 1)) (some ((i : Int) + 1 + (ka : Int))) = iv ((ns.drop (i + 1)).take ka) := by
    have e1 : ((i : Int) + 1) = ((i + 1 : Nat) : Int) := by omega
    have e2 : ((i : Int) + 1 + (ka : Int)) = ((i + 1 + ka : Nat) : Int) := by omega
    rw [e2, e1, cut_mid (by omega) (by rw [iv_len]; exact hle)]
    unfold iv
    rw [List.map_take, List.map_drop]
    congr 1
    omega
  have hna1 : upd H' na (.lst (cutV (iv ns) (some ((i : Int) + 1)) (some ((i : Int) + 1 + (ka : Int))))) na = some (.lst (iv ((ns.drop (i + 1)).take ka))) := by rw [upd_same, ecut]
  have g3 := same_new (o := .lst (cutV (iv ns) (some ((i : Int) + 1)) (some ((i : Int) + 1 + (ka : Int))))) hna
  generalize upd H' na (.lst (cutV (iv ns) (some ((i : Int) + 1)) (some ((i : Int) + 1 + (ka : Int))))) = H3 at hna1 g3
  have exl : ((ns.drop (i + 1)).take ka).length = ka := by rw [List.length_take, List.length_drop]; omega
  -- what stands behind the reading of the call
  refine ⟨fun σ' H4 => ∃ (i' f' : Nat) (raw' : List (List (List Int))) (l : List Int) (w7 w9 : Option V), i < i' ∧ i' ≤ ns.length ∧ σ' = [some (.ref a), some (.ref r), some (.ref G), some (.int i'), some (.ref fn), some (.int ka), some (.bl b), w7, some (.ref na), w9] ∧
    raw = (if kk = 1 then [n :: (ns.drop (i + 1)).take ka, l] else [n :: (ns.drop (i + 1)).take ka]) :: raw' ∧ PyFlat.calls PyVbceah.shape f' (ns.drop i') = some raw' ∧ (kk = 0 → l = []) ∧ l.length ≤ 30 ∧
    H4 na = some (.lst (iv ((ns.drop (i + 1)).take ka ++ l))) ∧ Same H' H4, ?_, ?_⟩
  · rcases hpar with ⟨hk0, hraw', hrest⟩ | ⟨hk1, m, hm, hmle, hraw', hrest⟩
    · have eb : b = false := by rw [hb, hk0]; rfl
      subst eb
      refine ⟨_, rfl, _, rfl, iteF ?_⟩
      refine ⟨i + 1 + ka, f1, raw1, [], some (.int ((i : Int) + 1)), v9, by omega, hle, ?_, ?_, hrest, fun _ => rfl, by simp, by rw [List.append_nil]; exact hna1, g3⟩
      · have e2 : ((i + 1 + ka : Nat) : Int) = ((i : Int) + 1 + (ka : Int)) := by omega
        rw [e2]
        rfl
      · rw [hraw', hk0]
        rfl
    · have eb : b = true := by rw [hb, hk1]; rfl
      subst eb
      have hS3 : SqL K H3 a (iv ns) := g3.seq hS'
      refine ⟨_, rfl, _, rfl, iteT ?_⟩
      refine ⟨_, rfl, _, _, rfl, rfl, ?_⟩
      have e0 : ((i : Int) + 1 + (ka : Int)) = ((i + 1 + ka : Nat) : Int) := by omega
      have hat : atI (iv ns) ((i : Int) + 1 + (ka : Int)) = some (.int (m : Int)) := by rw [e0]; exact atI_nat (iv_get hm)
      refine ⟨_, rfl, _, rfl, _, rfl, a, _, _, _, rfl, rfl, hS3, hat, _, _, rfl, rfl, ?_⟩
      refine ⟨_, rfl, .inl ⟨rfl, _, .inl (.inl hna1)⟩, _, rfl, _, rfl, _, rfl, _, rfl, _, rfl, a, _, rfl, hS3, fun nb hnb => ?_⟩
      have ecut2 : cutV (iv ns) (some ((i : Int) + 1 + (ka : Int) + 1)) (some ((i : Int) + 1 + (ka : Int) + 1 + (m : Int))) = iv ((ns.drop (i + 2 + ka)).take m) := by
        have e1 : ((i : Int) + 1 + (ka : Int) + 1) = ((i + 2 + ka : Nat) : Int) := by omega
        have e2 : ((i : Int) + 1 + (ka : Int) + 1 + (m : Int)) = ((i + 2 + ka + m : Nat) : Int) := by omega
        rw [e2, e1, cut_mid (by omega) (by rw [iv_len]; exact hmle)]
        unfold iv
        rw [List.map_take, List.map_drop]
        congr 1
        omega
      have g4 := same_new (o := .lst (cutV (iv ns) (some ((i : Int) + 1 + (ka : Int) + 1)) (some ((i : Int) + 1 + (ka : Int) + 1 + (m : Int))))) hnb
      have hnb4 : upd H3 nb (.lst (cutV (iv ns) (some ((i : Int) + 1 + (ka : Int) + 1)) (some ((i : Int) + 1 + (ka : Int) + 1 + (m : Int))))) nb = some (.lst (iv ((ns.drop (i + 2 + ka)).take m))) := by rw [upd_same, ecut2]
      have hna4 := g4 _ _ hna1
      generalize upd H3 nb (.lst (cutV (iv ns) (some ((i : Int) + 1 + (ka : Int) + 1)) (some ((i : Int) + 1 + (ka : Int) + 1 + (m : Int))))) = H4 at g4 hnb4 hna4
      have eml : ((ns.drop (i + 2 + ka)).take m).length = m := by rw [List.length_take, List.length_drop]; omega
      have has : VbceahNeutral.asked1 [n :: (ns.drop (i + 1)).take ka, (ns.drop (i + 2 + ka)).take m] = true := List.all_eq_true.mp M.asked _ (by rw [hraw']; exact List.mem_cons_self ..)
      have hl30 := asked_list has
      refine ⟨na, nb, _, _, rfl, rfl, hna4, hnb4, ?_, ?_⟩
      · rw [iv_len, iv_len, exl, eml, sizeLine_eq]
        omega
      refine ⟨i + 2 + ka + m, f1, raw1, (ns.drop (i + 2 + ka)).take m, some (.int ((i : Int) + 1 + (ka : Int) + 1)), v9, by omega, hmle, ?_, ?_, hrest, fun z => by omega, hl30, ?_, ?_⟩
      · have e2 : ((i + 2 + ka + m : Nat) : Int) = ((i : Int) + 1 + (ka : Int) + 1 + (m : Int)) := by omega
        rw [e2]
        rfl
      · rw [hraw', hk1]
        rfl
      · rw [upd_same]
        unfold iv
        rw [List.map_append]
      · intro b0 o e
        rw [upd_ne (ne_of_none e hna)]
        exact g4 _ _ (g3 _ _ e)
  · rintro σ' H4 ⟨i', f', raw', l, w7, w9, hlt, hle', rfl, hraw', hrest, hl0, hl30, hna4, g4⟩
    obtain ⟨ba2, ea2, hR2, hb2, he2⟩ := M.room
    obtain ⟨hpre, hgs⟩ := hg s _ l exl hl30 hl0
    have nab : na ≠ ba2 := fun z => by obtain ⟨_, _, _, _, _, _, h2, _⟩ := hR2; rw [← z, hna] at h2; cases h2
    have nae : na ≠ ea2 := fun z => by obtain ⟨_, _, _, _, _, _, _, _, h4, _⟩ := hR2; rw [← z, hna] at h4; cases h4
    have naG : na ≠ G := fun z => by rw [z, M.given] at hna; cases hna
    have hG4 := g4 _ _ M.given
    have nGb : G ≠ ba2 ∧ G ≠ ea2 := by obtain ⟨_, _, _, _, _, _, _, _, _, _, _, _, _, _, _, _, _, _, _, _, m1, m2, _⟩ := hR2; exact ⟨m1, m2⟩
    refine ⟨fn, _, rfl, held, _, rfl, _, rfl, G, r, na, ba2, ea2, s, _, rfl, hR2.stays g4, hna4, nab, nae, naG, ⟨_, hG4⟩, M.good, hpre, fun H5 p ba3 ea3 Fr hR5 hb3 he3 hp5 hA5 => ?_⟩
    rw [hgs] at hR5 hA5
    have nGr : G ≠ r := by
      obtain ⟨_, _, _, _, _, h1, _⟩ := hR2
      exact ne_of M.given h1 (fun z => nomatch z)
    have hG5 := Fr _ _ hG4 nGr nGb.1 nGb.2
    have key : (Vbceah.step s (if kk = 1 then [n :: (ns.drop (i + 1)).take ka, l] else [n :: (ns.drop (i + 1)).take ka])).2.length ≤ 100 := step_length M.good _
    have goods := good_step M.good (if kk = 1 then [n :: (ns.drop (i + 1)).take ka, l] else [n :: (ns.drop (i + 1)).take ka])
    have told := M.told
    rw [hraw', played_cons, told_cons] at told
    have asked := M.asked
    rw [hraw', List.all_cons, Bool.and_eq_true] at asked
    have few := M.few
    rw [hraw', List.length_cons] at few
    generalize (if kk = 1 then [n :: (ns.drop (i + 1)).take ka, l] else [n :: (ns.drop (i + 1)).take ka]) = cc at hR5 hA5 key goods told asked few
    refine ⟨_, rfl, .inl ⟨rfl, _, .inl (.inl hG5)⟩, _, rfl, p, _, rfl, .inl (.inl (.inl hA5)), G, _, _, rfl, rfl, hG5, ?_, ?_⟩
    · rw [iv_len, sizeLine_eq]
      omega
    have hp0 : p ≠ G := fun z => by rw [z, hG4] at hp5; cases hp5
    have hG6 : upd H5 G (.lst (iv gv ++ [.int ((iv (Vbceah.step s cc).2).length : Nat)])) G = some (.lst (iv gv ++ [.int ((iv (Vbceah.step s cc).2).length : Nat)])) := upd_same
    have hA6 : upd H5 G (.lst (iv gv ++ [.int ((iv (Vbceah.step s cc).2).length : Nat)])) p = some (.lst (iv (Vbceah.step s cc).2)) := by rw [upd_ne hp0]; exact hA5
    refine ⟨_, rfl, .inl ⟨rfl, _, .inl (.inl hG6)⟩, _, rfl, G, p, _, _, rfl, rfl, hG6, hA6, ?_, ?_⟩
    · rw [List.length_append, iv_len, iv_len, sizeLine_eq]
      show _ + 1 + _ ≤ _
      omega
    have egv : iv gv ++ [.int ((iv (Vbceah.step s cc).2).length : Nat)] ++ iv (Vbceah.step s cc).2 = iv (gv ++ (((Vbceah.step s cc).2.length : Int) :: (Vbceah.step s cc).2)) := by
      rw [iv_len]
      unfold iv
      rw [List.map_append, List.map_cons, List.append_assoc]
      rfl
    rw [upd_upd, egv]
    have hS4 := M.same.trans g4
    have hG0 : H G = none := hG0
    have room7 : RoomAt C G (upd H5 G (.lst (iv (gv ++ (((Vbceah.step s cc).2.length : Int) :: (Vbceah.step s cc).2))))) r ba3 ea3 (Vbceah.step s cc).1 := hR5.given_upd nGr ⟨_, hG5⟩
    refine ⟨i', f', raw', (Vbceah.step s cc).1, gv ++ (((Vbceah.step s cc).2.length : Int) :: (Vbceah.step s cc).2), _, _, _, _, _, _, hlt, rfl, ⟨hle', hrest, ?_, goods, asked.2, ?_, ⟨ba3, ea3, room7, ?_, ?_⟩, upd_same, ?_⟩⟩
    · rw [List.append_assoc]
      exact told
    · rw [List.length_append, List.length_cons]
      omega
    · rcases hb3 with z | z
      · rw [z]; exact hb2
      · exact hS4.free z
    · rcases he3 with z | z
      · rw [z]; exact he2
      · exact hS4.free z
    · intro b0 o e
      rw [upd_ne (ne_of_none e hG0)]
      have nbr : b0 ≠ r := fun z => by rw [z, nr] at e; cases e
      have nbb : b0 ≠ ba2 := fun z => by rw [z, hb2] at e; cases e
      have nbe : b0 ≠ ea2 := fun z => by rw [z, he2] at e; cases e
      exact Fr _ _ (hS4 _ _ e) nbr nbb nbe
end
end Rm

set_option Elab.async false
set_option linter.all false
set_option maxRecDepth 100000
set_option maxHeartbeats 4000000
/-! The end: what the top has. -/
namespace Rm
open PySem PySem.Spec PyProof.Rows L2
section
variable {P : Program} {w : World} {K : PySem.W.Frag} {mg : Str → Option Value} {base h : Heap} {C : Addr}
theorem has_mk {x : Str} {ps : List Str} {st : Stmt} {f : Addr} {oc : Value} {od an : Option Addr} {osl : Array (Option Value)} {kV doc pm cdv ct : Value} (X : K.In h) (G : h.Ns mainGlobals mg)
    (a : PySem.W.nsIn K mainGlobals x = some (some (.ref f))) (l : K.lookup f = some ⟨oc, od, .func (PySem.W.fnOf x x (C8.fnArgs st) (C8.fnBody st) (C8.fnScope st) .none kV doc pm an cdv ct), osl⟩)
    (c : PySem.W.codeIn K cdv x = true) (k : PySem.W.keepIn K (.ref f) = true)
    (hb : ∀ (kV doc pm : Value) (an : Option Addr) (cdv ct : Value) (us : List Value), us.length = ps.length → bindArgs (PySem.W.fnOf x x (C8.fnArgs st) (C8.fnBody st) (C8.fnScope st) .none kV doc pm an cdv ct) ⟨us, []⟩ = pure (ps.zip us)) : Has K mg x ps st := by
  have F : C8.Fun K x x st f (PySem.W.fnOf x x (C8.fnArgs st) (C8.fnBody st) (C8.fnScope st) .none kV doc pm an cdv ct) := ⟨⟨oc, od, .none, kV, doc, pm, an, cdv, ct, osl, rfl, l, c⟩⟩
  exact ⟨f, _, ⟨F, PySem.W.mg_of X G a, k⟩, C8.Fun.binds F rfl hb⟩
theorem held_of {k L : Nat} {x : Str} {f : Addr} {sp : Sp} (c : C8.Cal P w K mg base k x sp []) (hf : mg x = some (.ref f)) (hk : k ≤ L) : Held P w K mg base L f sp := by
  obtain ⟨f', fd, ps, ds, F, hm, kp, b, d⟩ := c.ex
  have e : f' = f := by
    have := hm.symm.trans hf
    cases this
    rfl
  subst e
  cases d
  exact ⟨fd, ps, F.mono hk, kp, b⟩
/-- a row of the table, from what the table holds -/
theorem row_mk {L k : Nat} {es : Array DictEntry} {n : Int} {a kk : Nat} {x : Str} {t f : Addr} {g : Vbceah.State → List Int → Vbceah.State × List Int} {pre : List Int → Prop} (c : C8.Cal P w K mg base k x (spAct C g pre) []) (hf : mg x = some (.ref f)) (hk : k ≤ L)
    (h1 : PySem.findBy Value.isInt es n = some (.ref t)) {dd : Option Addr} {m : Nat} {sl : Array (Option Value)} {tk : Tok} (h2 : K.lookup t = some ⟨.type "tuple", dd, .seq #[.ref f, .int a tk, .bool (decide (kk = 1))] m, sl⟩)
    (hg : ∀ (s : Vbceah.State) (xs l : List Int), xs.length = a → l.length ≤ 30 → (kk = 0 → l = []) → pre (xs ++ l) ∧ g s (xs ++ l) = Vbceah.step s (if kk = 1 then [n :: xs, l] else [n :: xs])) : Row P w K mg base C L es n a kk :=
  ⟨t, f, decide (kk = 1), g, pre, h1, fun _ => .inr ⟨_, _, m, h2, rfl, rfl, by show 3 ≤ sizeLine; decide, .cons rfl (.cons ⟨tk, rfl⟩ (.cons rfl .nil))⟩, rfl, held_of c hf hk, hg⟩
theorem row_none {L k : Nat} {es : Array DictEntry} {n : Int} {x : Str} {t f : Addr} (c : C8.Cal P w K mg base k x (spAct C (gStep [[n]]) any) []) (hf : mg x = some (.ref f)) (hk : k ≤ L)
    (h1 : PySem.findBy Value.isInt es n = some (.ref t)) {dd : Option Addr} {m : Nat} {sl : Array (Option Value)} {tk : Tok} (h2 : K.lookup t = some ⟨.type "tuple", dd, .seq #[.ref f, .int 0 tk, .bool false] m, sl⟩) : Row P w K mg base C L es n 0 0 :=
  row_mk (a := 0) (kk := 0) c hf hk h1 h2 fun s xs l hx _ hl => ⟨trivial, by rw [List.eq_nil_of_length_eq_zero hx]; rfl⟩
theorem row_book {L k : Nat} {es : Array DictEntry} {x : Str} {t f : Addr} (c : C8.Cal P w K mg base k x (spAct C gBook preL) []) (hf : mg x = some (.ref f)) (hk : k ≤ L)
    (h1 : PySem.findBy Value.isInt es 0 = some (.ref t)) {dd : Option Addr} {m : Nat} {sl : Array (Option Value)} {tk : Tok} (h2 : K.lookup t = some ⟨.type "tuple", dd, .seq #[.ref f, .int 0 tk, .bool true] m, sl⟩) : Row P w K mg base C L es 0 0 1 :=
  row_mk (a := 0) (kk := 1) c hf hk h1 h2 fun s xs l hx hl _ => by
    rw [List.eq_nil_of_length_eq_zero hx]
    exact ⟨hl, rfl⟩
theorem row_order {L k : Nat} {es : Array DictEntry} {x : Str} {t f : Addr} (c : C8.Cal P w K mg base k x (spAct C gOrder preL) []) (hf : mg x = some (.ref f)) (hk : k ≤ L)
    (h1 : PySem.findBy Value.isInt es 2 = some (.ref t)) {dd : Option Addr} {m : Nat} {sl : Array (Option Value)} {tk : Tok} (h2 : K.lookup t = some ⟨.type "tuple", dd, .seq #[.ref f, .int 0 tk, .bool true] m, sl⟩) : Row P w K mg base C L es 2 0 1 :=
  row_mk (a := 0) (kk := 1) c hf hk h1 h2 fun s xs l hx hl _ => by
    rw [List.eq_nil_of_length_eq_zero hx]
    exact ⟨hl, rfl⟩
theorem row_empty {L k : Nat} {es : Array DictEntry} {x : Str} {t f : Addr} (c : C8.Cal P w K mg base k x (spAct C gEmpty preE) []) (hf : mg x = some (.ref f)) (hk : k ≤ L)
    (h1 : PySem.findBy Value.isInt es 1 = some (.ref t)) {dd : Option Addr} {m : Nat} {sl : Array (Option Value)} {tk : Tok} (h2 : K.lookup t = some ⟨.type "tuple", dd, .seq #[.ref f, .int 1 tk, .bool true] m, sl⟩) : Row P w K mg base C L es 1 1 1 :=
  row_mk (a := 1) (kk := 1) c hf hk h1 h2 fun s xs l hx hl _ => by
    match xs, hx with
    | [d], _ => exact ⟨⟨d, l, rfl, hl⟩, rfl⟩
end
end Rm

set_option Elab.async false
set_option linter.all false
set_option maxRecDepth 100000
set_option maxHeartbeats 8000000
set_option pp.maxSteps 3000
namespace Rm
open PySem PySem.Spec PyProof.Rows L2
theorem int_dict {K : PySem.W.Frag} {c : Addr} {es : Array DictEntry} {n : Nat} (h : K.lookup c = some ⟨.type "dict", none, .dict es n, #[]⟩)
    (k : es.toList.all (fun e => match e.key with | .int k _ => e.hash == hashInt k | _ => false) = true) : Rx.IntDict K c es := by
  refine ⟨⟨n, h⟩, fun e he => ?_⟩
  have := List.all_eq_true.mp k e (by simpa using he)
  revert this
  cases e.key with
  | int i t => intro q; exact ⟨i, t, rfl, by simpa using q⟩
  | _ => intro q; cases q
theorem own_mk {K : PySem.W.Frag} {h : Heap} {mg : Str → Option Value} (X : K.In h) (G : h.Ns mainGlobals mg)
   (a1 : PySem.W.nsIn K mainGlobals "max" = some none) (a2 : PySem.W.nsIn K mainGlobals "min" = some none) (a3 : PySem.W.nsIn K mainGlobals "sum" = some none) (a4 : PySem.W.nsIn K mainGlobals "len" = some none)
   (a5 : PySem.W.nsIn K mainGlobals "range" = some none) (a6 : PySem.W.nsIn K mainGlobals "all" = some none) (a7 : PySem.W.nsIn K mainGlobals "int" = some none) (a8 : PySem.W.nsIn K mainGlobals "enumerate" = some none) : Own mg :=
  ⟨PySem.W.mg_none_of X G a1, PySem.W.mg_none_of X G a2, PySem.W.mg_none_of X G a3, PySem.W.mg_none_of X G a4, PySem.W.mg_none_of X G a5, PySem.W.mg_none_of X G a6, PySem.W.mg_none_of X G a7, PySem.W.mg_none_of X G a8⟩
theorem with_has {R : Prop} {K : PySem.W.Frag} {mg : Str → Option Value} {h : Heap} {f : Addr} {oc : Value} {od an : Option Addr} {osl : Array (Option Value)} {kV doc pm cdv ct : Value} (x : Str) (ps : List Str) (st : Stmt) (X : K.In h) (G : h.Ns mainGlobals mg)
    (a : PySem.W.nsIn K mainGlobals x = some (some (.ref f))) (l : K.lookup f = some ⟨oc, od, .func (PySem.W.fnOf x x (C8.fnArgs st) (C8.fnBody st) (C8.fnScope st) .none kV doc pm an cdv ct), osl⟩)
    (c : PySem.W.codeIn K cdv x = true) (k : PySem.W.keepIn K (.ref f) = true)
    (hb : ∀ (kV doc pm : Value) (an : Option Addr) (cdv ct : Value) (us : List Value), us.length = ps.length → bindArgs (PySem.W.fnOf x x (C8.fnArgs st) (C8.fnBody st) (C8.fnScope st) .none kV doc pm an cdv ct) ⟨us, []⟩ = pure (ps.zip us)) (q : Has K mg x ps st → R) : R :=
  q (has_mk X G a l c k hb)
def AnsHas (K : PySem.W.Frag) (mg : Str → Option Value) : Prop := ∃ f fd, C8.Def K mg "answers" sAns f fd ∧ ∀ (s : Shared) (us : List Value), us.length = (["calls"] : List Str).length → BindsTo s fd ⟨us, []⟩ ((["calls"] : List Str).zip us)
theorem with_ans {R : Prop} {K : PySem.W.Frag} {mg : Str → Option Value} {h : Heap} {f : Addr} {oc : Value} {od an : Option Addr} {osl : Array (Option Value)} {kV doc pm cdv ct : Value} (X : K.In h) (G : h.Ns mainGlobals mg)
    (a : PySem.W.nsIn K mainGlobals "answers" = some (some (.ref f))) (l : K.lookup f = some ⟨oc, od, .func (PySem.W.fnOf "answers" "answers" (C8.fnArgs sAns) (C8.fnBody sAns) (C8.fnScope sAns) .none kV doc pm an cdv ct), osl⟩)
    (c : PySem.W.codeIn K cdv "answers" = true) (k : PySem.W.keepIn K (.ref f) = true) (q : AnsHas K mg → R) : R :=
  q ⟨f, _, ⟨⟨⟨oc, od, .none, kV, doc, pm, an, cdv, ct, osl, rfl, l, c⟩⟩, PySem.W.mg_of X G a, k⟩, fun s us hu => match us, hu with | [_], _ => .of_eq rfl⟩
theorem with_own {R : Prop} {K : PySem.W.Frag} {h : Heap} {mg : Str → Option Value} (X : K.In h) (G : h.Ns mainGlobals mg)
   (a1 : PySem.W.nsIn K mainGlobals "max" = some none) (a2 : PySem.W.nsIn K mainGlobals "min" = some none) (a3 : PySem.W.nsIn K mainGlobals "sum" = some none) (a4 : PySem.W.nsIn K mainGlobals "len" = some none)
   (a5 : PySem.W.nsIn K mainGlobals "range" = some none) (a6 : PySem.W.nsIn K mainGlobals "all" = some none) (a7 : PySem.W.nsIn K mainGlobals "int" = some none) (a8 : PySem.W.nsIn K mainGlobals "enumerate" = some none) (q : Own mg → R) : R :=
  q (own_mk X G a1 a2 a3 a4 a5 a6 a7 a8)
theorem with_none {R : Prop} {K : PySem.W.Frag} {h : Heap} {mg : Str → Option Value} (x : Str) (X : K.In h) (G : h.Ns mainGlobals mg) (a : PySem.W.nsIn K mainGlobals x = some none) (q : mg x = none → R) : R := q (PySem.W.mg_none_of X G a)
/-- the class, as the top has it -/
structure RoomHas (K : PySem.W.Frag) (mg : Str → Option Value) (C f : Addr) (fd : FuncData) (f2 : Addr) (fd2 : FuncData) : Prop where
  make : Mk K C f
  g : mg "Room" = some (.ref C)
  fn : C8.Fun K "__init__" "Room.__init__" sInit f fd
  b : Binds K fd ["self"] []
  mf : Meth K C "forget_all" f2
  ff : C8.Fun K "forget_all" "Room.forget_all" sForget f2 fd2
  bf : Binds K fd2 ["self"] []
  t : RoomTxt K C
theorem with_room {R : Prop} {K : PySem.W.Frag} {h : Heap} {mg : Str → Option Value} (X : K.In h) (G : h.Ns mainGlobals mg) {C f f2 : Addr} {oc oc2 : Value} {od an od2 an2 : Option Addr} {osl osl2 : Array (Option Value)} {kV doc pm cdv ct kV2 doc2 pm2 cdv2 ct2 : Value}
    (aC : PySem.W.nsIn K mainGlobals "Room" = some (some (.ref C))) (a1 : PySem.W.findIn K (.ref C) "__init__" = some (some (.ref f))) (i1 : PySem.W.isFn K (.ref f) = true)
    (l1 : K.lookup f = some ⟨oc, od, .func (PySem.W.fnOf "__init__" "Room.__init__" (C8.fnArgs sInit) (C8.fnBody sInit) (C8.fnScope sInit) .none kV doc pm an cdv ct), osl⟩) (c1 : PySem.W.codeIn K cdv "Room.__init__" = true)
    (a2 : PySem.W.findIn K (.ref C) "forget_all" = some (some (.ref f2))) (i2 : PySem.W.isFn K (.ref f2) = true) (k2 : PySem.W.keepIn K (.ref f2) = true)
    (l2 : K.lookup f2 = some ⟨oc2, od2, .func (PySem.W.fnOf "forget_all" "Room.forget_all" (C8.fnArgs sForget) (C8.fnBody sForget) (C8.fnScope sForget) .none kV2 doc2 pm2 an2 cdv2 ct2), osl2⟩) (c2 : PySem.W.codeIn K cdv2 "Room.forget_all" = true)
    (pg : PySem.W.plainGet K C Str.empty = true) (hd : PySem.W.hasDictIn K C = true) (po : PySem.W.plainOver K C = true) (sa : PySem.W.findIn K (.ref C) "__setattr__" = some (some (.builtin "object.__setattr__"))) (mk : PySem.W.makesIn K C = true) (kc : PySem.W.keepIn K (.ref C) = true)
    (nB : PySem.W.findIn K (.ref C) "books" = some none) (nE : PySem.W.findIn K (.ref C) "empties" = some none) (nO : PySem.W.findIn K (.ref C) "order" = some none)
    (q : (∃ C f fd f2 fd2, RoomHas K mg C f fd f2 fd2) → R) : R := by
  have F : C8.Fun K "__init__" "Room.__init__" sInit f (PySem.W.fnOf "__init__" "Room.__init__" (C8.fnArgs sInit) (C8.fnBody sInit) (C8.fnScope sInit) .none kV doc pm an cdv ct) := ⟨⟨oc, od, .none, kV, doc, pm, an, cdv, ct, osl, rfl, l1, c1⟩⟩
  have F2 : C8.Fun K "forget_all" "Room.forget_all" sForget f2 (PySem.W.fnOf "forget_all" "Room.forget_all" (C8.fnArgs sForget) (C8.fnBody sForget) (C8.fnScope sForget) .none kV2 doc2 pm2 an2 cdv2 ct2) := ⟨⟨oc2, od2, .none, kV2, doc2, pm2, an2, cdv2, ct2, osl2, rfl, l2, c2⟩⟩
  exact q ⟨C, f, _, f2, _, ⟨mk, a1, i1, kc⟩, PySem.W.mg_of X G aC, F, F.binds rfl (fun _ _ _ _ _ _ us hl => match us, hl with | [_], _ => rfl), ⟨a2, i2, k2⟩, F2, F2.binds rfl (fun _ _ _ _ _ _ us hl => match us, hl with | [_], _ => rfl), ⟨⟨pg, hd, po, sa⟩, nB, nE, nO⟩⟩
theorem with_calls {R : Prop} {K : PySem.W.Frag} {h : Heap} {mg : Str → Option Value} (X : K.In h) (G : h.Ns mainGlobals mg) {c : Addr} {es : Array DictEntry} {n : Nat} (a : PySem.W.nsIn K mainGlobals "CALLS" = some (some (.ref c))) (l : K.lookup c = some ⟨.type "dict", none, .dict es n, #[]⟩)
    (q : mg "CALLS" = some (.ref c) → K.lookup c = some ⟨.type "dict", none, .dict es n, #[]⟩ → R) : R := q (PySem.W.mg_of X G a) l
/-- a row of the table, as the top has it -/
def RowF (K : PySem.W.Frag) (mg : Str → Option Value) (es : Array DictEntry) (n : Int) (x : Str) (a : Nat) (b : Bool) : Prop := ∃ (t f : Addr) (dd : Option Addr) (m : Nat) (sl : Array (Option Value)) (tk : Tok),
  PySem.findBy Value.isInt es n = some (.ref t) ∧ K.lookup t = some ⟨.type "tuple", dd, .seq #[.ref f, .int a tk, .bool b] m, sl⟩ ∧ mg x = some (.ref f)
theorem with_row {R : Prop} {K : PySem.W.Frag} {h : Heap} {mg : Str → Option Value} (n : Int) (x : Str) (a : Nat) (b : Bool) (X : K.In h) (G : h.Ns mainGlobals mg) {c : Addr} {es : Array DictEntry} {nn : Nat} (_ : K.lookup c = some ⟨.type "dict", none, .dict es nn, #[]⟩)
    {t f : Addr} {dd : Option Addr} {m : Nat} {sl : Array (Option Value)} {tk : Tok}
    (h1 : PySem.findBy Value.isInt es n = some (.ref t)) (h2 : K.lookup t = some ⟨.type "tuple", dd, .seq #[.ref f, .int a tk, .bool b] m, sl⟩) (h3 : PySem.W.nsIn K mainGlobals x = some (some (.ref f))) (q : RowF K mg es n x a b → R) : R :=
  q ⟨t, f, dd, m, sl, tk, h1, h2, PySem.W.mg_of X G h3⟩
theorem RowF.none {P : Program} {w : World} {K : PySem.W.Frag} {mg : Str → Option Value} {base : Heap} {C : Addr} {L k : Nat} {es : Array DictEntry} {n : Int} {x : Str} (r : RowF K mg es n x 0 false) (c : C8.Cal P w K mg base k x (spAct C (gStep [[n]]) any) []) (hk : k ≤ L) : Row P w K mg base C L es n 0 0 := by
  obtain ⟨t, f, dd, m, sl, tk, h1, h2, h3⟩ := r
  exact row_none c h3 hk h1 h2
theorem RowF.list {P : Program} {w : World} {K : PySem.W.Frag} {mg : Str → Option Value} {base : Heap} {C : Addr} {L k a : Nat} {es : Array DictEntry} {n : Int} {x : Str} {g : Vbceah.State → List Int → Vbceah.State × List Int} {pre : List Int → Prop} (r : RowF K mg es n x a true) (c : C8.Cal P w K mg base k x (spAct C g pre) []) (hk : k ≤ L)
    (hg : ∀ (s : Vbceah.State) (xs l : List Int), xs.length = a → l.length ≤ 30 → pre (xs ++ l) ∧ g s (xs ++ l) = Vbceah.step s [n :: xs, l]) : Row P w K mg base C L es n a 1 := by
  obtain ⟨t, f, dd, m, sl, tk, h1, h2, h3⟩ := r
  exact row_mk (a := a) (kk := 1) c h3 hk h1 h2 fun s xs l h1 h2 _ => hg s xs l h1 h2
theorem RowF.one {P : Program} {w : World} {K : PySem.W.Frag} {mg : Str → Option Value} {base : Heap} {C : Addr} {L k : Nat} {es : Array DictEntry} {n : Int} {x : Str} {g : Vbceah.State → List Int → Vbceah.State × List Int} {pre : List Int → Prop} (r : RowF K mg es n x 1 false) (c : C8.Cal P w K mg base k x (spAct C g pre) []) (hk : k ≤ L)
    (hg : ∀ (s : Vbceah.State) (d : Int), pre [d] ∧ g s [d] = Vbceah.step s [[n, d]]) : Row P w K mg base C L es n 1 0 := by
  obtain ⟨t, f, dd, m, sl, tk, h1, h2, h3⟩ := r
  exact row_mk (a := 1) (kk := 0) c h3 hk h1 h2 fun s xs l h1 h2 h3 => by
    match xs, h1 with
    | [d], _ =>
      rw [h3 rfl]
      exact hg s d
section
variable {P : Program} {w : World} {K : PySem.W.Frag} {mg : Str → Option Value} {base : Heap}
theorem row_cases {P : Program} {w : World} {K : PySem.W.Frag} {mg : Str → Option Value} {base : Heap} {C : Addr} {L : Nat} {es : Array DictEntry}
    (r0 : Row P w K mg base C L es 0 0 1) (r1 : Row P w K mg base C L es 1 1 1) (r2 : Row P w K mg base C L es 2 0 1) (r3 : Row P w K mg base C L es 3 0 0) (r4 : Row P w K mg base C L es 4 0 0) (r5 : Row P w K mg base C L es 5 0 0) (r6 : Row P w K mg base C L es 6 0 0)
    (r7 : Row P w K mg base C L es 7 0 0) (r8 : Row P w K mg base C L es 8 0 0) (r9 : Row P w K mg base C L es 9 0 0) (r10 : Row P w K mg base C L es 10 0 0) (r11 : Row P w K mg base C L es 11 0 0) (r12 : Row P w K mg base C L es 12 1 0) (r13 : Row P w K mg base C L es 13 0 0)
    (r14 : Row P w K mg base C L es 14 1 1) (r15 : Row P w K mg base C L es 15 1 1) (r16 : Row P w K mg base C L es 16 0 1) (r17 : Row P w K mg base C L es 17 1 0) (r18 : Row P w K mg base C L es 18 0 0) (r19 : Row P w K mg base C L es 19 0 0)
    (n : Int) (a k : Nat) (h : PyVbceah.shape n = some (a, k)) : Row P w K mg base C L es n a k := by
  unfold PyVbceah.shape at h
  by_cases e0 : n = 0
  · rw [if_pos e0] at h; cases h; rw [e0]; assumption
  rw [if_neg e0] at h
  by_cases e1 : n = 1
  · rw [if_pos e1] at h; cases h; rw [e1]; assumption
  rw [if_neg e1] at h
  by_cases e2 : n = 2
  · rw [if_pos e2] at h; cases h; rw [e2]; assumption
  rw [if_neg e2] at h
  by_cases e3 : n = 3
  · rw [if_pos e3] at h; cases h; rw [e3]; assumption
  rw [if_neg e3] at h
  by_cases e4 : n = 4
  · rw [if_pos e4] at h; cases h; rw [e4]; assumption
  rw [if_neg e4] at h
  by_cases e5 : n = 5
  · rw [if_pos e5] at h; cases h; rw [e5]; assumption
  rw [if_neg e5] at h
  by_cases e6 : n = 6
  · rw [if_pos e6] at h; cases h; rw [e6]; assumption
  rw [if_neg e6] at h
  by_cases e7 : n = 7
  · rw [if_pos e7] at h; cases h; rw [e7]; assumption
  rw [if_neg e7] at h
  by_cases e8 : n = 8
  · rw [if_pos e8] at h; cases h; rw [e8]; assumption
  rw [if_neg e8] at h
  by_cases e9 : n = 9
  · rw [if_pos e9] at h; cases h; rw [e9]; assumption
  rw [if_neg e9] at h
  by_cases e10 : n = 10
  · rw [if_pos e10] at h; cases h; rw [e10]; assumption
  rw [if_neg e10] at h
  by_cases e11 : n = 11
  · rw [if_pos e11] at h; cases h; rw [e11]; assumption
  rw [if_neg e11] at h
  by_cases e12 : n = 12
  · rw [if_pos e12] at h; cases h; rw [e12]; assumption
  rw [if_neg e12] at h
  by_cases e13 : n = 13
  · rw [if_pos e13] at h; cases h; rw [e13]; assumption
  rw [if_neg e13] at h
  by_cases e14 : n = 14
  · rw [if_pos e14] at h; cases h; rw [e14]; assumption
  rw [if_neg e14] at h
  by_cases e15 : n = 15
  · rw [if_pos e15] at h; cases h; rw [e15]; assumption
  rw [if_neg e15] at h
  by_cases e16 : n = 16
  · rw [if_pos e16] at h; cases h; rw [e16]; assumption
  rw [if_neg e16] at h
  by_cases e17 : n = 17
  · rw [if_pos e17] at h; cases h; rw [e17]; assumption
  rw [if_neg e17] at h
  by_cases e18 : n = 18
  · rw [if_pos e18] at h; cases h; rw [e18]; assumption
  rw [if_neg e18] at h
  by_cases e19 : n = 19
  · rw [if_pos e19] at h; cases h; rw [e19]; assumption
  rw [if_neg e19] at h
  cases h
end
end Rm
open PySem PySem.W PyProof.Rows
theorem PySem.Challenge.cw_twodesks_s01_answers_holds : PySem.Challenge.rw_twodesks_s01_answers.Holds := by
  w_on; k_headS; (case hw => exact ⟨[.list [.int 3]], by decide +kernel, by decide +kernel⟩)
  k_fillS
  refine L2.walk_specK (r := PySem.Challenge.rw_twodesks_s01_answers) (k := 11) (CX := L2.CX0) (ps := ["calls"]) (sp := Rm.spAns) (by decide +kernel) rfl rfl ⟨rfl, by decide, by decide⟩ (fun w h Y => PySem.W.kIn_of Y) ?F ?S (fun _ _ _ _ z => z)
  case F =>
    intro w mg fa h Y KX G hmg
    refine' Rm.with_own KX G ?a1 ?a2 ?a3 ?a4 ?a5 ?a6 ?a7 ?a8 fun O => ?_
    (case a1 => k_is); (case a2 => k_is); (case a3 => k_is); (case a4 => k_is); (case a5 => k_is); (case a6 => k_is); (case a7 => k_is); (case a8 => k_is)
    refine' Rm.with_none "sorted" KX G ?a fun so => ?_
    (case a => k_is)
    refine' Rm.with_none "list" KX G ?a fun ls => ?_
    (case a => k_is)
    refine' Rm.with_has "work_done" ["begun", "length", "stretches"] Rm.sWork KX G ?a ?l ?c ?k ?b fun h_work_done => ?_
    (case a => k_is); (case l => k_is); (case c => k_is); (case k => k_is)
    (case b => intro kV doc pm an cdv ct us hl; match us, hl with | [_, _, _], _ => rfl)
    refine' Rm.with_has "clocks_behind" ["clocks", "sheet", "empties"] Rm.sClocks KX G ?a ?l ?c ?k ?b fun h_clocks_behind => ?_
    (case a => k_is); (case l => k_is); (case c => k_is); (case k => k_is)
    (case b => intro kV doc pm an cdv ct us hl; match us, hl with | [_, _, _], _ => rfl)
    refine' Rm.with_has "first_standing" ["books"] Rm.sFirst KX G ?a ?l ?c ?k ?b fun h_first_standing => ?_
    (case a => k_is); (case l => k_is); (case c => k_is); (case k => k_is)
    (case b => intro kV doc pm an cdv ct us hl; match us, hl with | [_], _ => rfl)
    refine' Rm.with_has "count_sheets" ["books"] Rm.sCount KX G ?a ?l ?c ?k ?b fun h_count_sheets => ?_
    (case a => k_is); (case l => k_is); (case c => k_is); (case k => k_is)
    (case b => intro kV doc pm an cdv ct us hl; match us, hl with | [_], _ => rfl)
    refine' Rm.with_has "standing_behind" ["books", "empties", "standing", "book"] Rm.sBehind KX G ?a ?l ?c ?k ?b fun h_standing_behind => ?_
    (case a => k_is); (case l => k_is); (case c => k_is); (case k => k_is)
    (case b => intro kV doc pm an cdv ct us hl; match us, hl with | [_, _, _, _], _ => rfl)
    refine' Rm.with_has "standings_along" ["books", "empties", "order"] Rm.sAlong KX G ?a ?l ?c ?k ?b fun h_standings_along => ?_
    (case a => k_is); (case l => k_is); (case c => k_is); (case k => k_is)
    (case b => intro kV doc pm an cdv ct us hl; match us, hl with | [_, _, _], _ => rfl)
    refine' Rm.with_has "one_sheet_on" ["books", "empties", "kept"] Rm.sSheetOn KX G ?a ?l ?c ?k ?b fun h_one_sheet_on => ?_
    (case a => k_is); (case l => k_is); (case c => k_is); (case k => k_is)
    (case b => intro kV doc pm an cdv ct us hl; match us, hl with | [_, _, _], _ => rfl)
    refine' Rm.with_has "least_end" ["books", "empties", "standing"] Rm.sLeast KX G ?a ?l ?c ?k ?b fun h_least_end => ?_
    (case a => k_is); (case l => k_is); (case c => k_is); (case k => k_is)
    (case b => intro kV doc pm an cdv ct us hl; match us, hl with | [_, _, _], _ => rfl)
    refine' Rm.with_has "leads_to" ["goal", "books", "empties", "standing", "book"] Rm.sLeads KX G ?a ?l ?c ?k ?b fun h_leads_to => ?_
    (case a => k_is); (case l => k_is); (case c => k_is); (case k => k_is)
    (case b => intro kV doc pm an cdv ct us hl; match us, hl with | [_, _, _, _, _], _ => rfl)
    refine' Rm.with_has "first_best_order" ["books", "empties"] Rm.sBest KX G ?a ?l ?c ?k ?b fun h_first_best_order => ?_
    (case a => k_is); (case l => k_is); (case c => k_is); (case k => k_is)
    (case b => intro kV doc pm an cdv ct us hl; match us, hl with | [_, _], _ => rfl)
    refine' Rm.with_has "count_whole_orders" ["books"] Rm.sOrders KX G ?a ?l ?c ?k ?b fun h_count_whole_orders => ?_
    (case a => k_is); (case l => k_is); (case c => k_is); (case k => k_is)
    (case b => intro kV doc pm an cdv ct us hl; match us, hl with | [_], _ => rfl)
    refine' Rm.with_has "end_of" ["books", "order"] Rm.sEndOf KX G ?a ?l ?c ?k ?b fun h_end_of => ?_
    (case a => k_is); (case l => k_is); (case c => k_is); (case k => k_is)
    (case b => intro kV doc pm an cdv ct us hl; match us, hl with | [_, _], _ => rfl)
    refine' Rm.with_has "block_end" ["books", "row"] Rm.sBlockEnd KX G ?a ?l ?c ?k ?b fun h_block_end => ?_
    (case a => k_is); (case l => k_is); (case c => k_is); (case k => k_is)
    (case b => intro kV doc pm an cdv ct us hl; match us, hl with | [_, _], _ => rfl)
    refine' Rm.with_has "three_numbers" ["books", "book"] Rm.sThree KX G ?a ?l ?c ?k ?b fun h_three_numbers => ?_
    (case a => k_is); (case l => k_is); (case c => k_is); (case k => k_is)
    (case b => intro kV doc pm an cdv ct us hl; match us, hl with | [_, _], _ => rfl)
    refine' Rm.with_has "lead_and_tail" ["books", "book"] Rm.sLT KX G ?a ?l ?c ?k ?b fun h_lead_and_tail => ?_
    (case a => k_is); (case l => k_is); (case c => k_is); (case k => k_is)
    (case b => intro kV doc pm an cdv ct us hl; match us, hl with | [_, _], _ => rfl)
    refine' Rm.with_has "books_by_rule" ["books"] Rm.sByRule KX G ?a ?l ?c ?k ?b fun h_books_by_rule => ?_
    (case a => k_is); (case l => k_is); (case c => k_is); (case k => k_is)
    (case b => intro kV doc pm an cdv ct us hl; match us, hl with | [_], _ => rfl)
    refine' Rm.with_has "sheets_along" ["books", "order"] Rm.sSheets KX G ?a ?l ?c ?k ?b fun h_sheets_along => ?_
    (case a => k_is); (case l => k_is); (case c => k_is); (case k => k_is)
    (case b => intro kV doc pm an cdv ct us hl; match us, hl with | [_, _], _ => rfl)
    refine' Rm.with_has "hanging_place" ["books", "order"] Rm.sHang KX G ?a ?l ?c ?k ?b fun h_hanging_place => ?_
    (case a => k_is); (case l => k_is); (case c => k_is); (case k => k_is)
    (case b => intro kV doc pm an cdv ct us hl; match us, hl with | [_, _], _ => rfl)
    refine' Rm.with_has "told_once" ["workings"] Rm.sOnce KX G ?a ?l ?c ?k ?b fun h_told_once => ?_
    (case a => k_is); (case l => k_is); (case c => k_is); (case k => k_is)
    (case b => intro kV doc pm an cdv ct us hl; match us, hl with | [_], _ => rfl)
    refine' Rm.with_has "slips_beside" ["number", "workings"] Rm.sSlips KX G ?a ?l ?c ?k ?b fun h_slips_beside => ?_
    (case a => k_is); (case l => k_is); (case c => k_is); (case k => k_is)
    (case b => intro kV doc pm an cdv ct us hl; match us, hl with | [_, _], _ => rfl)
    refine' Rm.with_has "told_that_can_be_right" ["borne", "workings"] Rm.sCan KX G ?a ?l ?c ?k ?b fun h_told_that_can_be_right => ?_
    (case a => k_is); (case l => k_is); (case c => k_is); (case k => k_is)
    (case b => intro kV doc pm an cdv ct us hl; match us, hl with | [_, _], _ => rfl)
    refine' Rm.with_has "untold_can_be_right" ["borne", "workings"] Rm.sUntold KX G ?a ?l ?c ?k ?b fun h_untold_can_be_right => ?_
    (case a => k_is); (case l => k_is); (case c => k_is); (case k => k_is)
    (case b => intro kV doc pm an cdv ct us hl; match us, hl with | [_, _], _ => rfl)
    refine' Rm.with_has "verdict" ["borne", "workings"] Rm.sVerdict KX G ?a ?l ?c ?k ?b fun h_verdict => ?_
    (case a => k_is); (case l => k_is); (case c => k_is); (case k => k_is)
    (case b => intro kV doc pm an cdv ct us hl; match us, hl with | [_, _], _ => rfl)
    refine' Rm.with_has "two_least_slips" ["workings"] Rm.sTwo KX G ?a ?l ?c ?k ?b fun h_two_least_slips => ?_
    (case a => k_is); (case l => k_is); (case c => k_is); (case k => k_is)
    (case b => intro kV doc pm an cdv ct us hl; match us, hl with | [_], _ => rfl)
    refine' Rm.with_has "more_workings" ["borne", "workings"] Rm.sMoreW KX G ?a ?l ?c ?k ?b fun h_more_workings => ?_
    (case a => k_is); (case l => k_is); (case c => k_is); (case k => k_is)
    (case b => intro kV doc pm an cdv ct us hl; match us, hl with | [_, _], _ => rfl)
    refine' Rm.with_has "all_within" ["numbers", "least", "most"] Rm.sWithin KX G ?a ?l ?c ?k ?b fun h_all_within => ?_
    (case a => k_is); (case l => k_is); (case c => k_is); (case k => k_is)
    (case b => intro kV doc pm an cdv ct us hl; match us, hl with | [_, _, _], _ => rfl)
    refine' Rm.with_has "by_twos" ["numbers"] Rm.sTwos KX G ?a ?l ?c ?k ?b fun h_by_twos => ?_
    (case a => k_is); (case l => k_is); (case c => k_is); (case k => k_is)
    (case b => intro kV doc pm an cdv ct us hl; match us, hl with | [_], _ => rfl)
    refine' Rm.with_has "as_list" ["numbers"] Rm.sAsList KX G ?a ?l ?c ?k ?b fun h_as_list => ?_
    (case a => k_is); (case l => k_is); (case c => k_is); (case k => k_is)
    (case b => intro kV doc pm an cdv ct us hl; match us, hl with | [_], _ => rfl)
    refine' Rm.with_has "standings_of" ["room"] Rm.sStandings KX G ?a ?l ?c ?k ?b fun h_standings_of => ?_
    (case a => k_is); (case l => k_is); (case c => k_is); (case k => k_is)
    (case b => intro kV doc pm an cdv ct us hl; match us, hl with | [_], _ => rfl)
    refine' Rm.with_has "whole_flag" ["room"] Rm.sWhole KX G ?a ?l ?c ?k ?b fun h_whole_flag => ?_
    (case a => k_is); (case l => k_is); (case c => k_is); (case k => k_is)
    (case b => intro kV doc pm an cdv ct us hl; match us, hl with | [_], _ => rfl)
    refine' Rm.with_has "is_book" ["room", "number"] Rm.sIsBook KX G ?a ?l ?c ?k ?b fun h_is_book => ?_
    (case a => k_is); (case l => k_is); (case c => k_is); (case k => k_is)
    (case b => intro kV doc pm an cdv ct us hl; match us, hl with | [_, _], _ => rfl)
    refine' Rm.with_has "has_empty_times" ["room"] Rm.sHasE KX G ?a ?l ?c ?k ?b fun h_has_empty_times => ?_
    (case a => k_is); (case l => k_is); (case c => k_is); (case k => k_is)
    (case b => intro kV doc pm an cdv ct us hl; match us, hl with | [_], _ => rfl)
    refine' Rm.with_has "add_book" ["room", "numbers"] Rm.sBook KX G ?a ?l ?c ?k ?b fun h_add_book => ?_
    (case a => k_is); (case l => k_is); (case c => k_is); (case k => k_is)
    (case b => intro kV doc pm an cdv ct us hl; match us, hl with | [_, _], _ => rfl)
    refine' Rm.with_has "are_stretches" ["numbers"] Rm.sStretch KX G ?a ?l ?c ?k ?b fun h_are_stretches => ?_
    (case a => k_is); (case l => k_is); (case c => k_is); (case k => k_is)
    (case b => intro kV doc pm an cdv ct us hl; match us, hl with | [_], _ => rfl)
    refine' Rm.with_has "set_empty" ["room", "numbers"] Rm.sEmpty KX G ?a ?l ?c ?k ?b fun h_set_empty => ?_
    (case a => k_is); (case l => k_is); (case c => k_is); (case k => k_is)
    (case b => intro kV doc pm an cdv ct us hl; match us, hl with | [_, _], _ => rfl)
    refine' Rm.with_has "set_order" ["room", "numbers"] Rm.sOrder KX G ?a ?l ?c ?k ?b fun h_set_order => ?_
    (case a => k_is); (case l => k_is); (case c => k_is); (case k => k_is)
    (case b => intro kV doc pm an cdv ct us hl; match us, hl with | [_, _], _ => rfl)
    refine' Rm.with_has "tell_order" ["room", "numbers"] Rm.sNow KX G ?a ?l ?c ?k ?b fun h_tell_order => ?_
    (case a => k_is); (case l => k_is); (case c => k_is); (case k => k_is)
    (case b => intro kV doc pm an cdv ct us hl; match us, hl with | [_, _], _ => rfl)
    refine' Rm.with_has "tell_ends" ["room", "numbers"] Rm.sEnds KX G ?a ?l ?c ?k ?b fun h_tell_ends => ?_
    (case a => k_is); (case l => k_is); (case c => k_is); (case k => k_is)
    (case b => intro kV doc pm an cdv ct us hl; match us, hl with | [_, _], _ => rfl)
    refine' Rm.with_has "tell_times" ["room", "numbers"] Rm.sTimes KX G ?a ?l ?c ?k ?b fun h_tell_times => ?_
    (case a => k_is); (case l => k_is); (case c => k_is); (case k => k_is)
    (case b => intro kV doc pm an cdv ct us hl; match us, hl with | [_, _], _ => rfl)
    refine' Rm.with_has "tell_waits" ["room", "numbers"] Rm.sWaits KX G ?a ?l ?c ?k ?b fun h_tell_waits => ?_
    (case a => k_is); (case l => k_is); (case c => k_is); (case k => k_is)
    (case b => intro kV doc pm an cdv ct us hl; match us, hl with | [_, _], _ => rfl)
    refine' Rm.with_has "tell_least" ["room", "numbers"] Rm.sTLeast KX G ?a ?l ?c ?k ?b fun h_tell_least => ?_
    (case a => k_is); (case l => k_is); (case c => k_is); (case k => k_is)
    (case b => intro kV doc pm an cdv ct us hl; match us, hl with | [_, _], _ => rfl)
    refine' Rm.with_has "tell_best" ["room", "numbers"] Rm.sTBest KX G ?a ?l ?c ?k ?b fun h_tell_best => ?_
    (case a => k_is); (case l => k_is); (case c => k_is); (case k => k_is)
    (case b => intro kV doc pm an cdv ct us hl; match us, hl with | [_, _], _ => rfl)
    refine' Rm.with_has "tell_left" ["room", "numbers"] Rm.sTLeft KX G ?a ?l ?c ?k ?b fun h_tell_left => ?_
    (case a => k_is); (case l => k_is); (case c => k_is); (case k => k_is)
    (case b => intro kV doc pm an cdv ct us hl; match us, hl with | [_, _], _ => rfl)
    refine' Rm.with_has "tell_next" ["room", "numbers"] Rm.sNext KX G ?a ?l ?c ?k ?b fun h_tell_next => ?_
    (case a => k_is); (case l => k_is); (case c => k_is); (case k => k_is)
    (case b => intro kV doc pm an cdv ct us hl; match us, hl with | [_, _], _ => rfl)
    refine' Rm.with_has "tell_rule" ["room", "numbers"] Rm.sRule KX G ?a ?l ?c ?k ?b fun h_tell_rule => ?_
    (case a => k_is); (case l => k_is); (case c => k_is); (case k => k_is)
    (case b => intro kV doc pm an cdv ct us hl; match us, hl with | [_, _], _ => rfl)
    refine' Rm.with_has "tell_block" ["room", "numbers"] Rm.sBlock KX G ?a ?l ?c ?k ?b fun h_tell_block => ?_
    (case a => k_is); (case l => k_is); (case c => k_is); (case k => k_is)
    (case b => intro kV doc pm an cdv ct us hl; match us, hl with | [_, _], _ => rfl)
    refine' Rm.with_has "tell_critical" ["room", "numbers"] Rm.sCrit KX G ?a ?l ?c ?k ?b fun h_tell_critical => ?_
    (case a => k_is); (case l => k_is); (case c => k_is); (case k => k_is)
    (case b => intro kV doc pm an cdv ct us hl; match us, hl with | [_, _], _ => rfl)
    refine' Rm.with_has "are_workings" ["numbers"] Rm.sAreW KX G ?a ?l ?c ?k ?b fun h_are_workings => ?_
    (case a => k_is); (case l => k_is); (case c => k_is); (case k => k_is)
    (case b => intro kV doc pm an cdv ct us hl; match us, hl with | [_], _ => rfl)
    refine' Rm.with_has "judge_workings" ["room", "numbers"] Rm.sJudge KX G ?a ?l ?c ?k ?b fun h_judge_workings => ?_
    (case a => k_is); (case l => k_is); (case c => k_is); (case k => k_is)
    (case b => intro kV doc pm an cdv ct us hl; match us, hl with | [_, _], _ => rfl)
    refine' Rm.with_has "tell_more" ["room", "numbers"] Rm.sTMore KX G ?a ?l ?c ?k ?b fun h_tell_more => ?_
    (case a => k_is); (case l => k_is); (case c => k_is); (case k => k_is)
    (case b => intro kV doc pm an cdv ct us hl; match us, hl with | [_, _], _ => rfl)
    refine' Rm.with_has "tell_blocks" ["room", "numbers"] Rm.sBlocks KX G ?a ?l ?c ?k ?b fun h_tell_blocks => ?_
    (case a => k_is); (case l => k_is); (case c => k_is); (case k => k_is)
    (case b => intro kV doc pm an cdv ct us hl; match us, hl with | [_, _], _ => rfl)
    refine' Rm.with_has "tell_swap" ["room", "numbers"] Rm.sSwap KX G ?a ?l ?c ?k ?b fun h_tell_swap => ?_
    (case a => k_is); (case l => k_is); (case c => k_is); (case k => k_is)
    (case b => intro kV doc pm an cdv ct us hl; match us, hl with | [_, _], _ => rfl)
    refine' Rm.with_has "tell_books" ["room", "numbers"] Rm.sBooks KX G ?a ?l ?c ?k ?b fun h_tell_books => ?_
    (case a => k_is); (case l => k_is); (case c => k_is); (case k => k_is)
    (case b => intro kV doc pm an cdv ct us hl; match us, hl with | [_, _], _ => rfl)
    refine' Rm.with_has "clear_all" ["room", "numbers"] Rm.sClear KX G ?a ?l ?c ?k ?b fun h_clear_all => ?_
    (case a => k_is); (case l => k_is); (case c => k_is); (case k => k_is)
    (case b => intro kV doc pm an cdv ct us hl; match us, hl with | [_, _], _ => rfl)
    refine' Rm.with_room KX G ?aC ?a1 ?i1 ?l1 ?c1 ?a2 ?i2 ?k2 ?l2 ?c2 ?pg ?hd ?po ?sa ?mk ?kc ?nB ?nE ?nO fun R => ?_
    (case aC => k_is); (case a1 => k_is); (case i1 => k_is); (case l1 => k_is); (case c1 => k_is); (case a2 => k_is); (case i2 => k_is); (case k2 => k_is); (case l2 => k_is); (case c2 => k_is); (case pg => k_is); (case hd => k_is); (case po => k_is); (case sa => k_is); (case mk => k_is); (case kc => k_is); (case nB => k_is); (case nE => k_is); (case nO => k_is)
    refine' Rm.with_ans KX G ?a ?l ?c ?k fun h31 => ?_
    (case a => k_is); (case l => k_is); (case c => k_is); (case k => k_is)
    refine' Rm.with_calls KX G ?aC ?lC fun hC D => ?_
    (case aC => k_is); (case lC => k_is)
    have D' := Rm.int_dict D rfl
    refine' Rm.with_row 0 "add_book" 0 true KX G D ?a ?l ?c fun r0 => ?_
    (case a => rfl); (case l => k_is); (case c => k_is)
    refine' Rm.with_row 1 "set_empty" 1 true KX G D ?a ?l ?c fun r1 => ?_
    (case a => rfl); (case l => k_is); (case c => k_is)
    refine' Rm.with_row 2 "set_order" 0 true KX G D ?a ?l ?c fun r2 => ?_
    (case a => rfl); (case l => k_is); (case c => k_is)
    refine' Rm.with_row 3 "tell_order" 0 false KX G D ?a ?l ?c fun r3 => ?_
    (case a => rfl); (case l => k_is); (case c => k_is)
    refine' Rm.with_row 4 "tell_ends" 0 false KX G D ?a ?l ?c fun r4 => ?_
    (case a => rfl); (case l => k_is); (case c => k_is)
    refine' Rm.with_row 5 "tell_times" 0 false KX G D ?a ?l ?c fun r5 => ?_
    (case a => rfl); (case l => k_is); (case c => k_is)
    refine' Rm.with_row 6 "tell_waits" 0 false KX G D ?a ?l ?c fun r6 => ?_
    (case a => rfl); (case l => k_is); (case c => k_is)
    refine' Rm.with_row 7 "tell_least" 0 false KX G D ?a ?l ?c fun r7 => ?_
    (case a => rfl); (case l => k_is); (case c => k_is)
    refine' Rm.with_row 8 "tell_best" 0 false KX G D ?a ?l ?c fun r8 => ?_
    (case a => rfl); (case l => k_is); (case c => k_is)
    refine' Rm.with_row 9 "tell_left" 0 false KX G D ?a ?l ?c fun r9 => ?_
    (case a => rfl); (case l => k_is); (case c => k_is)
    refine' Rm.with_row 10 "tell_next" 0 false KX G D ?a ?l ?c fun r10 => ?_
    (case a => rfl); (case l => k_is); (case c => k_is)
    refine' Rm.with_row 11 "tell_rule" 0 false KX G D ?a ?l ?c fun r11 => ?_
    (case a => rfl); (case l => k_is); (case c => k_is)
    refine' Rm.with_row 12 "tell_block" 1 false KX G D ?a ?l ?c fun r12 => ?_
    (case a => rfl); (case l => k_is); (case c => k_is)
    refine' Rm.with_row 13 "tell_critical" 0 false KX G D ?a ?l ?c fun r13 => ?_
    (case a => rfl); (case l => k_is); (case c => k_is)
    refine' Rm.with_row 14 "judge_workings" 1 true KX G D ?a ?l ?c fun r14 => ?_
    (case a => rfl); (case l => k_is); (case c => k_is)
    refine' Rm.with_row 15 "tell_more" 1 true KX G D ?a ?l ?c fun r15 => ?_
    (case a => rfl); (case l => k_is); (case c => k_is)
    refine' Rm.with_row 16 "tell_blocks" 0 true KX G D ?a ?l ?c fun r16 => ?_
    (case a => rfl); (case l => k_is); (case c => k_is)
    refine' Rm.with_row 17 "tell_swap" 1 false KX G D ?a ?l ?c fun r17 => ?_
    (case a => rfl); (case l => k_is); (case c => k_is)
    refine' Rm.with_row 18 "tell_books" 0 false KX G D ?a ?l ?c fun r18 => ?_
    (case a => rfl); (case l => k_is); (case c => k_is)
    refine' Rm.with_row 19 "clear_all" 0 false KX G D ?a ?l ?c fun r19 => ?_
    (case a => rfl); (case l => k_is); (case c => k_is)
    clear Y
    obtain ⟨C, fR, fdR, fF, fdF, R⟩ := R
    obtain ⟨f, fd, Df, b⟩ := h31
    have ef : f = fa := by
      have z := Df.mgf.symm.trans hmg
      cases z
      rfl
    subst ef
    refine ⟨fd, b, fun base XB GB => ?_⟩
    · have nF : (("forget_all" : Str) == ("books" : Str)) = false ∧ (("forget_all" : Str) == ("empties" : Str)) = false ∧ (("forget_all" : Str) == ("order" : Str)) = false := by decide +kernel
      have mF := Rm.met_forget (mg := mg) (P := PySem.Challenge.rw_twodesks_s01_answers.prog) (w := w) (base := base) R.mf R.ff R.bf R.t
      have c_work_done := Rm.cal_work (P := PySem.Challenge.rw_twodesks_s01_answers.prog) (w := w) (base := base) h_work_done O
      have c_clocks_behind := Rm.cal_clocks h_clocks_behind O c_work_done
      have c_first_standing := Rm.cal_first (P := PySem.Challenge.rw_twodesks_s01_answers.prog) (w := w) (base := base) h_first_standing O
      have c_count_sheets := Rm.cal_count (P := PySem.Challenge.rw_twodesks_s01_answers.prog) (w := w) (base := base) h_count_sheets O
      have c_standing_behind := Rm.cal_behind h_standing_behind O c_clocks_behind
      have c_standings_along := Rm.cal_along h_standings_along O c_first_standing c_standing_behind
      have c_one_sheet_on := Rm.cal_sheetOn h_one_sheet_on O c_standing_behind
      have c_least_end := Rm.cal_least h_least_end O c_count_sheets c_one_sheet_on
      have c_leads_to := Rm.cal_leads h_leads_to c_standing_behind c_least_end
      have c_first_best_order := Rm.cal_best h_first_best_order O c_first_standing c_count_sheets c_standing_behind c_least_end c_leads_to
      have c_count_whole_orders := Rm.cal_orders (P := PySem.Challenge.rw_twodesks_s01_answers.prog) (w := w) (base := base) h_count_whole_orders O
      have c_end_of := Rm.cal_endOf h_end_of c_standings_along
      have c_block_end := Rm.cal_blockEnd h_block_end O c_end_of
      have c_three_numbers := Rm.cal_three h_three_numbers O c_block_end
      have c_lead_and_tail := Rm.cal_lt h_lead_and_tail c_three_numbers
      have c_books_by_rule := Rm.cal_byRule h_books_by_rule O c_lead_and_tail so
      have c_sheets_along := Rm.cal_sheets (P := PySem.Challenge.rw_twodesks_s01_answers.prog) (w := w) (base := base) h_sheets_along O
      have c_hanging_place := Rm.cal_hang h_hanging_place O c_sheets_along c_end_of
      have c_told_once := Rm.cal_once (P := PySem.Challenge.rw_twodesks_s01_answers.prog) (w := w) (base := base) h_told_once ls
      have c_slips_beside := Rm.cal_slips (P := PySem.Challenge.rw_twodesks_s01_answers.prog) (w := w) (base := base) h_slips_beside O
      have c_told_that_can_be_right := Rm.cal_can h_told_that_can_be_right c_told_once c_slips_beside
      have c_untold_can_be_right := Rm.cal_untold (P := PySem.Challenge.rw_twodesks_s01_answers.prog) (w := w) (base := base) h_untold_can_be_right O
      have c_verdict := Rm.cal_verdict h_verdict O c_untold_can_be_right c_told_that_can_be_right
      have c_two_least_slips := Rm.cal_two h_two_least_slips O so c_told_once c_slips_beside
      have c_more_workings := Rm.cal_moreW h_more_workings c_two_least_slips
      have c_all_within := Rm.cal_within (P := PySem.Challenge.rw_twodesks_s01_answers.prog) (w := w) (base := base) h_all_within O
      have c_by_twos := Rm.cal_twos (P := PySem.Challenge.rw_twodesks_s01_answers.prog) (w := w) (base := base) h_by_twos O
      have c_as_list := Rm.cal_asList (P := PySem.Challenge.rw_twodesks_s01_answers.prog) (w := w) (base := base) h_as_list O
      have c_standings_of := Rm.cal_standings h_standings_of R.t c_standings_along
      have c_whole_flag := Rm.cal_whole h_whole_flag R.t O c_count_sheets
      have c_is_book := Rm.cal_isBook (P := PySem.Challenge.rw_twodesks_s01_answers.prog) (w := w) (base := base) h_is_book R.t O
      have c_has_empty_times := Rm.cal_hasE (P := PySem.Challenge.rw_twodesks_s01_answers.prog) (w := w) (base := base) h_has_empty_times R.t
      have c_add_book := Rm.cal_book h_add_book R.t O c_all_within c_by_twos c_count_sheets
      have c_are_stretches := Rm.cal_stretch h_are_stretches O c_all_within c_by_twos
      have c_set_empty := Rm.cal_empty h_set_empty R.t O c_are_stretches c_by_twos
      have c_set_order := Rm.cal_order h_set_order R.t O c_all_within c_whole_flag
      have c_tell_order := Rm.cal_now h_tell_order R.t c_as_list
      have c_tell_ends := Rm.cal_ends h_tell_ends c_standings_of c_whole_flag
      have c_tell_times := Rm.cal_times h_tell_times R.t O c_standings_of
      have c_tell_waits := Rm.cal_waits h_tell_waits R.t O c_as_list c_standings_of
      have c_tell_least := Rm.cal_tLeast h_tell_least R.t c_first_standing c_least_end c_count_whole_orders
      have c_tell_best := Rm.cal_tBest h_tell_best R.t c_as_list c_first_best_order
      have c_tell_left := Rm.cal_tLeft h_tell_left R.t c_standings_of c_least_end
      have c_tell_next := Rm.cal_next h_tell_next R.t O c_standings_of c_standing_behind c_least_end c_as_list
      have c_tell_rule := Rm.cal_rule h_tell_rule R.t c_has_empty_times c_books_by_rule c_as_list c_block_end
      have c_tell_block := Rm.cal_block h_tell_block R.t c_is_book c_three_numbers c_lead_and_tail
      have c_tell_critical := Rm.cal_crit h_tell_critical R.t O c_has_empty_times c_hanging_place
      have c_are_workings := Rm.cal_areW h_are_workings O c_all_within
      have c_judge_workings := Rm.cal_judge h_judge_workings (C:=C) O c_are_workings c_verdict c_untold_can_be_right c_told_that_can_be_right c_as_list
      have c_tell_more := Rm.cal_tMore h_tell_more (C:=C) c_are_workings c_more_workings
      have c_tell_blocks := Rm.cal_blocks h_tell_blocks R.t c_is_book c_has_empty_times c_block_end
      have c_tell_swap := Rm.cal_swap h_tell_swap R.t O ls c_standings_along
      have c_tell_books := Rm.cal_books (P := PySem.Challenge.rw_twodesks_s01_answers.prog) (w := w) (base := base) h_tell_books R.t O
      have c_clear_all := Rm.cal_clear h_clear_all nF mF
      have M := Rm.mak_room R.make R.g R.fn R.b mF
      refine Rm.ok_answers Df O M hC D' (Rm.row_cases
        (r0.list c_add_book (by decide) fun s xs l hx hl => by rw [List.eq_nil_of_length_eq_zero hx]; exact ⟨hl, rfl⟩)
        (r1.list c_set_empty (by decide) fun s xs l hx hl => match xs, hx with | [d], _ => ⟨⟨d, l, rfl, hl⟩, rfl⟩)
        (r2.list c_set_order (by decide) fun s xs l hx hl => by rw [List.eq_nil_of_length_eq_zero hx]; exact ⟨hl, rfl⟩)
        (r3.none c_tell_order (by decide))
        (r4.none c_tell_ends (by decide))
        (r5.none c_tell_times (by decide))
        (r6.none c_tell_waits (by decide))
        (r7.none c_tell_least (by decide))
        (r8.none c_tell_best (by decide))
        (r9.none c_tell_left (by decide))
        (r10.none c_tell_next (by decide))
        (r11.none c_tell_rule (by decide))
        (r12.one c_tell_block (by decide) fun s d => ⟨⟨d, rfl⟩, rfl⟩)
        (r13.none c_tell_critical (by decide))
        (r14.list c_judge_workings (by decide) fun s xs l hx hl => match xs, hx with | [d], _ => ⟨⟨d, l, rfl, hl⟩, rfl⟩)
        (r15.list c_tell_more (by decide) fun s xs l hx hl => match xs, hx with | [d], _ => ⟨⟨d, l, rfl, hl⟩, rfl⟩)
        (r16.list c_tell_blocks (by decide) fun s xs l hx hl => by rw [List.eq_nil_of_length_eq_zero hx]; exact ⟨hl, rfl⟩)
        (r17.one c_tell_swap (by decide) fun s d => ⟨⟨d, rfl⟩, rfl⟩)
        (r18.none c_tell_books (by decide))
        (r19.none c_clear_all (by decide)))
  case S =>
    intro K H xs a hO hwi hask hx
    cases hx with
    | cons h1 h2 =>
      cases h2
      cases h1 with
      | lst hs ha =>
        have e := L2.ints_dw a.1 _ ha
        subst e
        have q : ((Codec.inLen 0 14000 a.1 && a.1.all (Codec.inInt (-9223372036854775808) 9223372036854775807)) && true) = true := hwi
        rw [Bool.and_eq_true, Bool.and_eq_true] at q
        exact ⟨_, a.1, rfl, hs, (Codec.inNat_iff.mp q.1.1).2, hask, fun H' p hp => .lst (L2.SqL.of hp) (L2.dw_ints _)⟩

