import PyProof.Rows.All
import Wide.All
import OpenK.AllK
import Wide.FinOn
import Open.SpecLaws
import KE.OsGo
import HandS.Spec
import HandS.List
import HandS.Words
import HandS.Comp
import HandS.Iter
import HandS.SetFor
import HandS.SortInts
import PySem.Challenge.RW_lapsegrants_s01_covered
set_option Elab.async false
namespace Lg
open Kyi2

/-! ### grants by threes -/
theorem grants_len : ∀ (m : Nat) (l : List Nat), l.length = 3 * m → (grants l).length = m
  | 0, l, h => by
    have e : l = [] := List.length_eq_zero_iff.mp (by omega)
    subst e; rfl
  | m + 1, l, h => by
    match l, h with
    | a :: b :: n :: r, h =>
      have ih := grants_len m r (by simp only [List.length_cons] at h; omega)
      show (grants r).length + 1 = m + 1
      rw [ih]
    | [_, _], h => simp only [List.length_cons, List.length_nil] at h; omega
    | [_], h => simp only [List.length_cons, List.length_nil] at h; omega
    | [], h => simp only [List.length_nil] at h; omega
theorem grants_get : ∀ (m : Nat) (l : List Nat), l.length = 3 * m → ∀ i, i < m →
    (grants l)[i]? = some ⟨l.getD (3 * i) 0, l.getD (3 * i + 1) 0, l.getD (3 * i + 2) 0⟩
  | 0, l, h, i, hi => absurd hi (Nat.not_lt_zero _)
  | m + 1, l, h, i, hi => by
    match l, h with
    | a :: b :: n :: r, h =>
      match i, hi with
      | 0, _ => rfl
      | i + 1, hi =>
        have ih := grants_get m r (by simp only [List.length_cons] at h; omega) i (by omega)
        show (grants r)[i]? = _
        rw [ih]
        have e0 : 3 * (i + 1) = 3 * i + 3 := by omega
        rw [e0]
        rfl
    | [_, _], h => simp only [List.length_cons, List.length_nil] at h; omega
    | [_], h => simp only [List.length_cons, List.length_nil] at h; omega
    | [], h => simp only [List.length_nil] at h; omega

/-! ### the grants as they stand: what is left kept beside -/
def cur : List Grant → List Nat → List Grant
  | g :: gs, n :: ns => { g with n := n } :: cur gs ns
  | _, _ => []
theorem cur_len : ∀ {gs : List Grant} {ns : List Nat}, ns.length = gs.length → (cur gs ns).length = gs.length
  | [], [], _ => rfl
  | g :: gs, n :: ns, h => by
    show (cur gs ns).length + 1 = gs.length + 1
    rw [cur_len (Nat.succ.inj h)]
  | [], _ :: _, h => by simp at h
  | _ :: _, [], h => by simp at h
theorem cur_get : ∀ {gs : List Grant} {ns : List Nat} {i : Nat} {g : Grant} {n : Nat}, gs[i]? = some g → ns[i]? = some n → (cur gs ns)[i]? = some { g with n := n }
  | [], _, i, g, n, h, _ => by simp at h
  | _ :: _, [], i, g, n, _, h => by simp at h
  | g0 :: gs, n0 :: ns, 0, g, n, h1, h2 => by
    have e1 : g0 = g := Option.some.inj h1
    have e2 : n0 = n := Option.some.inj h2
    subst e1 e2; rfl
  | g0 :: gs, n0 :: ns, i + 1, g, n, h1, h2 => cur_get (gs := gs) (ns := ns) (i := i) h1 h2
theorem cur_getD {gs : List Grant} {ns : List Nat} {i : Nat} {g : Grant} {n : Nat} (h1 : gs[i]? = some g) (h2 : ns[i]? = some n) : (cur gs ns).getD i ⟨0, 0, 0⟩ = { g with n := n } := by
  rw [List.getD_eq_getElem?_getD, cur_get h1 h2]; rfl
theorem cur_set : ∀ {gs : List Grant} {ns : List Nat} {i : Nat} {g : Grant} {m : Nat}, gs[i]? = some g → (cur gs ns).set i { g with n := m } = cur gs (ns.set i m)
  | [], _, i, g, m, h => by simp at h
  | g0 :: gs, [], i, g, m, h => by
    show ([] : List Grant).set i _ = cur (g0 :: gs) ([].set i m)
    rw [List.set_nil, List.set_nil]; rfl
  | g0 :: gs, n0 :: ns, 0, g, m, h => by
    have e1 : g0 = g := Option.some.inj h
    subst e1; rfl
  | g0 :: gs, n0 :: ns, i + 1, g, m, h => by
    show { g0 with n := n0 } :: (cur gs ns).set i { g with n := m } = { g0 with n := n0 } :: cur gs (ns.set i m)
    rw [cur_set (gs := gs) (ns := ns) (i := i) h]
theorem less_cur {gs : List Grant} {ns : List Nat} {i : Nat} {g : Grant} {n : Nat} (h1 : gs[i]? = some g) (h2 : ns[i]? = some n) : less (cur gs ns) i = cur gs (ns.set i (n - 1)) := by
  unfold less
  rw [cur_getD h1 h2]
  exact cur_set (g := g) h1
theorem cur_self : ∀ (gs : List Grant), cur gs (gs.map Grant.n) = gs
  | [] => rfl
  | g :: gs => by
    show { g with n := g.n } :: cur gs (gs.map Grant.n) = g :: gs
    rw [cur_self gs]
theorem cur_n : ∀ {gs : List Grant} {ns : List Nat}, ns.length = gs.length → (cur gs ns).map Grant.n = ns
  | [], [], _ => rfl
  | g :: gs, n :: ns, h => by
    show n :: (cur gs ns).map Grant.n = n :: ns
    rw [cur_n (Nat.succ.inj h)]
  | [], _ :: _, h => by simp at h
  | _ :: _, [], h => by simp at h

/-! ### the pick as one walk -/
def step (l : List Grant) (h : Nat) (acc : Option Nat) (y : Nat) : Option Nat :=
  if serves (l.getD y ⟨0, 0, 0⟩) h = true then (match acc with
    | none => some y
    | some x => some (if (l.getD y ⟨0, 0, 0⟩).b < (l.getD x ⟨0, 0, 0⟩).b then y else x)) else acc
def best (l : List Grant) (h k : Nat) : Option Nat := (List.range k).foldl (step l h) none
theorem fold_some (l : List Grant) (h : Nat) : ∀ (L : List Nat) (x : Nat), L.foldl (step l h) (some x) =
    some ((L.filter fun i => serves (l.getD i ⟨0, 0, 0⟩) h).foldl (fun x y => if (l.getD y ⟨0, 0, 0⟩).b < (l.getD x ⟨0, 0, 0⟩).b then y else x) x)
  | [], x => rfl
  | y :: L, x => by
    rw [List.foldl_cons, List.filter_cons]
    by_cases c : serves (l.getD y ⟨0, 0, 0⟩) h = true
    · rw [if_pos c, List.foldl_cons]
      have e : step l h (some x) y = some (if (l.getD y ⟨0, 0, 0⟩).b < (l.getD x ⟨0, 0, 0⟩).b then y else x) := by
        unfold step; rw [if_pos c]
      rw [e]
      exact fold_some l h L _
    · rw [if_neg c]
      have e : step l h (some x) y = some x := by unfold step; rw [if_neg c]
      rw [e]
      exact fold_some l h L x
theorem fold_none (l : List Grant) (h : Nat) : ∀ (L : List Nat), L.foldl (step l h) none =
    (match L.filter fun i => serves (l.getD i ⟨0, 0, 0⟩) h with
      | [] => none
      | i :: r => some (r.foldl (fun x y => if (l.getD y ⟨0, 0, 0⟩).b < (l.getD x ⟨0, 0, 0⟩).b then y else x) i))
  | [] => rfl
  | y :: L => by
    rw [List.foldl_cons, List.filter_cons]
    by_cases c : serves (l.getD y ⟨0, 0, 0⟩) h = true
    · rw [if_pos c]
      have e : step l h none y = some y := by unfold step; rw [if_pos c]
      rw [e]
      exact fold_some l h L y
    · rw [if_neg c]
      have e : step l h none y = none := by unfold step; rw [if_neg c]
      rw [e]
      exact fold_none l h L
theorem pick_best (l : List Grant) (h : Nat) : pick l h = best l h l.length := (fold_none l h _).symm
theorem best_succ (l : List Grant) (h k : Nat) : best l h (k + 1) = step l h (best l h k) k := by
  unfold best
  rw [List.range_succ, List.foldl_append]
  rfl
theorem best_ok (l : List Grant) (h : Nat) : ∀ (k i : Nat), best l h k = some i → i < k ∧ serves (l.getD i ⟨0, 0, 0⟩) h = true
  | 0, i, e => by
    have e : (none : Option Nat) = some i := e
    cases e
  | k + 1, i, e => by
    rw [best_succ] at e
    unfold step at e
    by_cases c : serves (l.getD k ⟨0, 0, 0⟩) h = true
    · rw [if_pos c] at e
      cases q : best l h k with
      | none =>
        rw [q] at e
        have e : k = i := Option.some.inj e
        subst e
        exact ⟨Nat.lt_succ_self _, c⟩
      | some x =>
        rw [q] at e
        have e := Option.some.inj e
        have ih := best_ok l h k x q
        by_cases d : (l.getD k ⟨0, 0, 0⟩).b < (l.getD x ⟨0, 0, 0⟩).b
        · rw [if_pos d] at e
          subst e
          exact ⟨Nat.lt_succ_self _, c⟩
        · rw [if_neg d] at e
          subst e
          exact ⟨Nat.lt_succ_of_lt ih.1, ih.2⟩
    · rw [if_neg c] at e
      have ih := best_ok l h k i e
      exact ⟨Nat.lt_succ_of_lt ih.1, ih.2⟩

/-! ### used one by one -/
theorem use_nil (l : List Grant) : use l [] = (l, none) := rfl
theorem use_none {l : List Grant} {h : Nat} {t : List Nat} (e : pick l h = none) : use l (h :: t) = (l, some h) := by
  show (match pick l h with | none => (l, some h) | some i => use (less l i) t) = _
  rw [e]
theorem use_some {l : List Grant} {h i : Nat} {t : List Nat} (e : pick l h = some i) : use l (h :: t) = use (less l i) t := by
  show (match pick l h with | none => (l, some h) | some i => use (less l i) t) = _
  rw [e]
theorem drop_get {t : List Nat} {i h : Nat} (e : t[i]? = some h) : t.drop i = h :: t.drop (i + 1) := by
  obtain ⟨hi, e⟩ := List.getElem?_eq_some_iff.mp e
  rw [List.drop_eq_getElem_cons hi, e]

/-! ### what may be handed in -/
theorem rising_iff : ∀ (t : List Nat), rising t = true ↔ ∀ i, i + 1 < t.length → t.getD i 0 < t.getD (i + 1) 0
  | [] => ⟨fun _ i h => absurd h (Nat.not_lt_zero _), fun _ => rfl⟩
  | [a] => ⟨fun _ i h => absurd h (by simp only [List.length_cons, List.length_nil]; omega), fun _ => rfl⟩
  | a :: b :: r => by
    have ih := rising_iff (b :: r)
    show (decide (a < b) && rising (b :: r)) = true ↔ _
    rw [Bool.and_eq_true, decide_eq_true_iff, ih]
    refine ⟨fun ⟨h1, h2⟩ i hi => ?_, fun h => ⟨h 0 (by simp only [List.length_cons]; omega), fun i hi => h (i + 1) (by simp only [List.length_cons] at hi ⊢; omega)⟩⟩
    match i with
    | 0 => exact h1
    | i + 1 => exact h2 i (by simp only [List.length_cons] at hi ⊢; omega)
/-- the look at the half at a place -/
def halfOk (t : List Nat) (i : Nat) : Prop := t.getD i 0 < 800 ∧ (0 < i → t.getD (i - 1) 0 < t.getD i 0)
theorem all_getD {t : List Nat} {p : Nat → Bool} : t.all p = true ↔ ∀ i, i < t.length → p (t.getD i 0) = true := by
  rw [List.all_eq_true]
  refine ⟨fun h i hi => ?_, fun h x hx => ?_⟩
  · rw [List.getD_eq_getElem?_getD, List.getElem?_eq_getElem hi]
    exact h _ (List.getElem_mem hi)
  · obtain ⟨i, hi, e⟩ := List.mem_iff_getElem.mp hx
    have q := h i hi
    rw [List.getD_eq_getElem?_getD, List.getElem?_eq_getElem hi] at q
    rw [← e]
    exact q
theorem okTaken_iff (t : List Nat) : okTaken t = true ↔ t.length ≤ 60 ∧ ∀ i, i < t.length → halfOk t i := by
  unfold okTaken
  rw [Bool.and_eq_true, Bool.and_eq_true, decide_eq_true_iff, rising_iff, all_getD]
  refine ⟨fun ⟨⟨h1, h2⟩, h3⟩ => ⟨h1, fun i hi => ⟨of_decide_eq_true (h3 i hi), fun h0 => ?_⟩⟩, fun ⟨h1, h2⟩ => ⟨⟨h1, fun i hi => ?_⟩, fun i hi => decide_eq_true (h2 i hi).1⟩⟩
  · have q := h2 (i - 1) (by omega)
    rw [show i - 1 + 1 = i by omega] at q
    exact q
  · exact (h2 (i + 1) hi).2 (Nat.succ_pos i)
theorem okGrant_iff (g : Grant) : okGrant g = true ↔ g.a ≤ g.b ∧ g.b < 800 ∧ g.n ≤ 100 := by
  unfold okGrant
  rw [Bool.and_eq_true, Bool.and_eq_true, decide_eq_true_iff, decide_eq_true_iff, decide_eq_true_iff]
  exact ⟨fun ⟨⟨a, b⟩, c⟩ => ⟨a, b, c⟩, fun ⟨a, b, c⟩ => ⟨⟨a, b⟩, c⟩⟩
/-- what the grants' look answers -/
def okL (l : List Nat) : Bool := decide (l.length % 3 = 0) && okGrants (grants l)
theorem okL_iff (l : List Nat) : okL l = true ↔ l.length % 3 = 0 ∧ (grants l).length ≤ 10 ∧ ∀ (i : Nat) (g : Grant), (grants l)[i]? = some g → okGrant g = true := by
  unfold okL okGrants
  rw [Bool.and_eq_true, Bool.and_eq_true, decide_eq_true_iff, decide_eq_true_iff, List.all_eq_true]
  refine and_congr_right fun _ => and_congr_right fun _ => ⟨fun h i g e => h g (List.mem_of_getElem? e), fun h g hg => ?_⟩
  obtain ⟨i, hi, e⟩ := List.mem_iff_getElem.mp hg
  exact h i g (by rw [List.getElem?_eq_getElem hi, e])
theorem good_eq (l t : List Nat) : good l t = (okL l && okTaken t) := rfl

/-! ### whole numbers and their naturals -/
theorem ints_nats : ∀ {l : List Int}, (∀ x ∈ l, 0 ≤ x) → (Kyi2Neutral.natsOf l).map (fun (n : Nat) => (n : Int)) = l
  | [], _ => rfl
  | x :: l, h => by
    have ih := ints_nats (l := l) fun y hy => h y (List.mem_cons_of_mem _ hy)
    show ((x.toNat : Nat) : Int) :: (Kyi2Neutral.natsOf l).map (fun (n : Nat) => (n : Int)) = x :: l
    rw [ih, Int.toNat_of_nonneg (h x List.mem_cons_self)]
end Lg

set_option Elab.async false
namespace Lg
open Kyi2

/-! ### the places taken -/
def plc (l : List Grant) : List Nat → List Nat
  | [] => []
  | h :: t => match pick l h with
    | none => []
    | some i => i :: plc (less l i) t
theorem plc_none {l : List Grant} {h : Nat} {t : List Nat} (e : pick l h = none) : plc l (h :: t) = [] := by
  show (match pick l h with | none => [] | some i => i :: plc (less l i) t) = _
  rw [e]
theorem plc_some {l : List Grant} {h i : Nat} {t : List Nat} (e : pick l h = some i) : plc l (h :: t) = i :: plc (less l i) t := by
  show (match pick l h with | none => [] | some i => i :: plc (less l i) t) = _
  rw [e]
theorem plc_len : ∀ (t : List Nat) (l : List Grant), (plc l t).length ≤ t.length
  | [], _ => Nat.le_refl _
  | h :: t, l => by
    cases e : pick l h with
    | none => rw [plc_none e]; exact Nat.zero_le _
    | some i => rw [plc_some e]; exact Nat.succ_le_succ (plc_len t _)
/-- the first half that none serves stands behind the places taken -/
theorem use_snd : ∀ (t : List Nat) (l : List Grant), (use l t).2 = t[(plc l t).length]?
  | [], _ => rfl
  | h :: t, l => by
    cases e : pick l h with
    | none => rw [use_none e, plc_none e]; rfl
    | some i =>
      rw [use_some e, plc_some e, List.length_cons, List.getElem?_cons_succ]
      exact use_snd t _
theorem covered_iff (l : List Grant) (t : List Nat) : covered l t = true ↔ (plc l t).length = t.length := by
  unfold covered
  rw [use_snd]
  have := plc_len t l
  by_cases c : (plc l t).length < t.length
  · rw [List.getElem?_eq_getElem c]
    exact ⟨fun z => (by cases z), fun z => (by omega)⟩
  · rw [List.getElem?_eq_none (by omega)]
    exact ⟨fun _ => by omega, fun _ => rfl⟩

/-! ### what's left, place by place -/
theorem pick_cur {gs : List Grant} {ns : List Nat} {h i : Nat} (hl : ns.length = gs.length) (q : pick (cur gs ns) h = some i) :
    ∃ g n, gs[i]? = some g ∧ ns[i]? = some n ∧ 0 < n := by
  rw [pick_best, cur_len hl] at q
  obtain ⟨hj, sv⟩ := best_ok _ _ _ _ q
  have hg : gs[i]? = some gs[i] := List.getElem?_eq_getElem hj
  have hn : ns[i]? = some ns[i] := List.getElem?_eq_getElem (by rw [hl]; exact hj)
  refine ⟨_, _, hg, hn, ?_⟩
  rw [cur_getD hg hn] at sv
  unfold serves at sv
  rw [Bool.and_eq_true, decide_eq_true_iff] at sv
  exact sv.2
theorem use_left : ∀ (t : List Nat) (gs : List Grant) (ns : List Nat), ns.length = gs.length →
    ∃ ms : List Nat, (use (cur gs ns) t).1 = cur gs ms ∧ ms.length = gs.length ∧
      ∀ i, i < gs.length → ns.getD i 0 = ms.getD i 0 + (plc (cur gs ns) t).count i
  | [], gs, ns, hl => ⟨ns, rfl, hl, fun i _ => rfl⟩
  | h :: t, gs, ns, hl => by
    cases e : pick (cur gs ns) h with
    | none => rw [use_none e, plc_none e]; exact ⟨ns, rfl, hl, fun i _ => rfl⟩
    | some j =>
      obtain ⟨g, n, hg, hn, h0⟩ := pick_cur hl e
      rw [use_some e, plc_some e, less_cur hg hn]
      obtain ⟨ms, h1, h2, h3⟩ := use_left t gs (ns.set j (n - 1)) (by rw [List.length_set]; exact hl)
      refine ⟨ms, h1, h2, fun i hi => ?_⟩
      have q := h3 i hi
      rw [List.getD_eq_getElem?_getD, List.getElem?_set] at q
      rw [List.count_cons]
      by_cases c : j = i
      · subst c
        rw [if_pos rfl, if_pos (by rw [hl]; exact hi)] at q
        rw [if_pos (beq_self_eq_true j), List.getD_eq_getElem?_getD, hn]
        have q : n - 1 = _ := q
        show n = _
        omega
      · rw [if_neg c] at q
        rw [if_neg (by rw [beq_iff_eq]; exact c), Nat.add_zero, List.getD_eq_getElem?_getD]
        exact q
theorem left_eq (gs : List Grant) (t : List Nat) : ∃ ms : List Nat, left gs t = cur gs ms ∧ ms.length = gs.length ∧
    ∀ i g, gs[i]? = some g → g.n = ms.getD i 0 + (plc gs t).count i := by
  obtain ⟨ms, h1, h2, h3⟩ := use_left t gs (gs.map Grant.n) (List.length_map ..)
  rw [cur_self] at h1 h3
  refine ⟨ms, h1, h2, fun i g hg => ?_⟩
  rw [← h3 i (List.getElem?_eq_some_iff.mp hg).1, List.getD_eq_getElem?_getD, List.getElem?_map, hg]
  rfl

/-! ### the pick, told by what it beats -/
abbrev G0 : Grant := ⟨0, 0, 0⟩
def beats (l : List Grant) (i j : Nat) : Prop := (l.getD i G0).b < (l.getD j G0).b ∨ ((l.getD i G0).b = (l.getD j G0).b ∧ i ≤ j)
theorem best_none (l : List Grant) (h : Nat) : ∀ k, best l h k = none → ∀ j, j < k → ¬ serves (l.getD j G0) h = true
  | 0, _, j, hj => absurd hj (Nat.not_lt_zero _)
  | k + 1, e, j, hj => by
    rw [best_succ] at e
    unfold step at e
    by_cases c : serves (l.getD k G0) h = true
    · rw [if_pos c] at e
      cases q : best l h k with
      | none => rw [q] at e; cases e
      | some x => rw [q] at e; cases e
    · rw [if_neg c] at e
      by_cases d : j = k
      · rw [d]; exact c
      · exact best_none l h k e j (by omega)
theorem best_min (l : List Grant) (h : Nat) : ∀ k i, best l h k = some i → ∀ j, j < k → serves (l.getD j G0) h = true → beats l i j
  | 0, _, e, j, hj, _ => absurd hj (Nat.not_lt_zero _)
  | k + 1, i, e, j, hj, sj => by
    rw [best_succ] at e
    unfold step at e
    by_cases c : serves (l.getD k G0) h = true
    · rw [if_pos c] at e
      cases q : best l h k with
      | none =>
        rw [q] at e
        have e : k = i := Option.some.inj e
        subst e
        by_cases d : j = k
        · rw [d]; exact Or.inr ⟨rfl, Nat.le_refl _⟩
        · exact absurd sj (best_none l h k q j (by omega))
      | some x =>
        rw [q] at e
        have e : (if (l.getD k G0).b < (l.getD x G0).b then k else x) = i := Option.some.inj e
        have hx := (best_ok l h k x q).1
        by_cases d : (l.getD k G0).b < (l.getD x G0).b
        · rw [if_pos d] at e
          subst e
          by_cases f : j = k
          · rw [f]; exact Or.inr ⟨rfl, Nat.le_refl _⟩
          · have := best_min l h k x q j (by omega) sj
            unfold beats at this ⊢
            omega
        · rw [if_neg d] at e
          subst e
          by_cases f : j = k
          · rw [f]; unfold beats; omega
          · exact best_min l h k x q j (by omega) sj
    · rw [if_neg c] at e
      by_cases d : j = k
      · rw [d] at sj; exact absurd sj c
      · exact best_min l h k i e j (by omega) sj
theorem pick_some_iff {l : List Grant} {h i : Nat} : pick l h = some i ↔ i < l.length ∧ serves (l.getD i G0) h = true ∧ ∀ j, j < l.length → serves (l.getD j G0) h = true → beats l i j := by
  rw [pick_best]
  refine ⟨fun e => ⟨(best_ok _ _ _ _ e).1, (best_ok _ _ _ _ e).2, best_min _ _ _ _ e⟩, fun ⟨h1, h2, h3⟩ => ?_⟩
  cases q : best l h l.length with
  | none => exact absurd h2 (best_none _ _ _ q i h1)
  | some x =>
    have a := h3 x (best_ok _ _ _ _ q).1 (best_ok _ _ _ _ q).2
    have b := best_min _ _ _ _ q i h1 h2
    unfold beats at a b
    have : x = i := by omega
    rw [this]
theorem pick_none_iff {l : List Grant} {h : Nat} : pick l h = none ↔ ∀ j, j < l.length → ¬ serves (l.getD j G0) h = true := by
  rw [pick_best]
  refine ⟨best_none _ _ _, fun h3 => ?_⟩
  cases q : best l h l.length with
  | none => rfl
  | some x => exact absurd (best_ok _ _ _ _ q).2 (h3 x (best_ok _ _ _ _ q).1)

/-! ### fewer are covered as well -/
theorem less_len (l : List Grant) (i : Nat) : (less l i).length = l.length := List.length_set
theorem less_getD (l : List Grant) (i k : Nat) (hi : i < l.length) : (less l i).getD k G0 = if i = k then { l.getD i G0 with n := (l.getD i G0).n - 1 } else l.getD k G0 := by
  unfold less
  rw [List.getD_eq_getElem?_getD, List.getElem?_set]
  by_cases c : i = k
  · rw [if_pos c, if_pos (c ▸ hi), if_pos c]
    rfl
  · rw [if_neg c, if_neg c, List.getD_eq_getElem?_getD]
/-- alike, but for one more at one place (or none, where the place is beyond the end) -/
structure Near (A B : List Grant) (j : Nat) : Prop where
  len : B.length = A.length
  a : ∀ i, i < A.length → (B.getD i G0).a = (A.getD i G0).a
  b : ∀ i, i < A.length → (B.getD i G0).b = (A.getD i G0).b
  n : ∀ i, i < A.length → (B.getD i G0).n = (A.getD i G0).n + if i = j then 1 else 0
theorem serves_eq (g : Grant) (h : Nat) : serves g h = true ↔ g.a ≤ h ∧ h ≤ g.b ∧ 0 < g.n := by
  unfold serves
  rw [Bool.and_eq_true, Bool.and_eq_true, decide_eq_true_iff, decide_eq_true_iff, decide_eq_true_iff, and_assoc]
theorem Near.serves {A B : List Grant} {j : Nat} (N : Near A B j) {i h : Nat} (hi : i < A.length) (s : serves (A.getD i G0) h = true) : Kyi2.serves (B.getD i G0) h = true := by
  rw [serves_eq] at s ⊢
  rw [N.a i hi, N.b i hi, N.n i hi]
  exact ⟨s.1, s.2.1, Nat.lt_of_lt_of_le s.2.2 (Nat.le_add_right _ _)⟩
theorem Near.back {A B : List Grant} {j : Nat} (N : Near A B j) {i h : Nat} (hi : i < A.length) (hj : i ≠ j) (s : Kyi2.serves (B.getD i G0) h = true) : Kyi2.serves (A.getD i G0) h = true := by
  rw [serves_eq] at s ⊢
  rw [N.a i hi, N.b i hi, N.n i hi, if_neg hj] at s
  exact s
theorem Near.step {A B : List Grant} {j h i : Nat} (N : Near A B j) (e : pick A h = some i) : ∃ i' j', pick B h = some i' ∧ Near (less A i) (less B i') j' := by
  obtain ⟨h1, h2, h3⟩ := pick_some_iff.mp e
  cases q : pick B h with
  | none => exact absurd (N.serves h1 h2) (pick_none_iff.mp q i (by rw [N.len]; exact h1))
  | some i' =>
    obtain ⟨g1, g2, g3⟩ := pick_some_iff.mp q
    have g1A : i' < A.length := by rw [← N.len]; exact g1
    have h1B : i < B.length := by rw [N.len]; exact h1
    have hn := ((serves_eq _ _).mp h2).2.2
    by_cases c : i' = i
    · subst c
      refine ⟨i', j, rfl, by rw [less_len, less_len]; exact N.len, fun k hk => ?_, fun k hk => ?_, fun k hk => ?_⟩ <;> rw [less_len] at hk <;> rw [less_getD _ _ _ h1, less_getD _ _ _ h1B]
      · have := N.a k hk
        by_cases d : i' = k
        · subst d; rw [if_pos rfl, if_pos rfl]; exact this
        · rw [if_neg d, if_neg d]; exact this
      · have := N.b k hk
        by_cases d : i' = k
        · subst d; rw [if_pos rfl, if_pos rfl]; exact this
        · rw [if_neg d, if_neg d]; exact this
      · have := N.n k hk
        by_cases d : i' = k
        · subst d; rw [if_pos rfl, if_pos rfl]
          show (B.getD i' G0).n - 1 = (A.getD i' G0).n - 1 + _
          omega
        · rw [if_neg d, if_neg d]; exact this
    · have cj : i' = j := by
        apply Decidable.byContradiction
        intro z
        have b1 := h3 i' g1A (N.back g1A z g2)
        have b2 := g3 i h1B (N.serves h1 h2)
        unfold beats at b1 b2
        rw [N.b i h1, N.b i' g1A] at b2
        omega
      subst cj
      refine ⟨i', i, rfl, by rw [less_len, less_len]; exact N.len, fun k hk => ?_, fun k hk => ?_, fun k hk => ?_⟩ <;> rw [less_len] at hk <;> rw [less_getD _ _ _ h1, less_getD _ _ _ g1]
      · have := N.a k hk
        by_cases d : i = k
        · subst d; rw [if_pos rfl, if_neg c]; exact this
        · rw [if_neg d]
          by_cases f : i' = k
          · subst f; rw [if_pos rfl]; exact this
          · rw [if_neg f]; exact this
      · have := N.b k hk
        by_cases d : i = k
        · subst d; rw [if_pos rfl, if_neg c]; exact this
        · rw [if_neg d]
          by_cases f : i' = k
          · subst f; rw [if_pos rfl]; exact this
          · rw [if_neg f]; exact this
      · have := N.n k hk
        by_cases d : i = k
        · subst d
          rw [if_neg (fun z => c z.symm)] at this
          rw [if_pos rfl, if_neg c, if_pos rfl]
          show (B.getD i G0).n = (A.getD i G0).n - 1 + 1
          omega
        · rw [if_neg d, if_neg (show ¬ k = i from fun z => d z.symm)]
          by_cases f : i' = k
          · subst f
            rw [if_pos rfl] at this
            rw [if_pos rfl]
            show (B.getD i' G0).n - 1 = _
            omega
          · rw [if_neg f]
            rw [if_neg (fun z => f z.symm)] at this
            exact this
theorem covered_cons {l : List Grant} {h i : Nat} {t : List Nat} (e : pick l h = some i) : covered l (h :: t) = covered (less l i) t := by
  unfold covered
  rw [use_some e]
theorem covered_none {l : List Grant} {h : Nat} {t : List Nat} (e : pick l h = none) : covered l (h :: t) = false := by
  unfold covered
  rw [use_none e]
  rfl
theorem Near.covered : ∀ {t : List Nat} {A B : List Grant} {j : Nat}, Near A B j → covered A t = true → covered B t = true
  | [], _, _, _, _, _ => rfl
  | h :: t, A, B, j, N, c => by
    cases e : pick A h with
    | none => rw [covered_none e] at c; cases c
    | some i =>
      rw [covered_cons e] at c
      obtain ⟨i', j', e', N'⟩ := N.step e
      rw [covered_cons e']
      exact Near.covered N' c
theorem near_less (l : List Grant) (i : Nat) (hi : i < l.length) (h0 : 0 < (l.getD i G0).n) : Near (less l i) l i := by
  refine ⟨(less_len l i).symm, fun k hk => ?_, fun k hk => ?_, fun k hk => ?_⟩ <;> rw [less_getD _ _ _ hi]
  · by_cases d : i = k
    · subst d; rw [if_pos rfl]
    · rw [if_neg d]
  · by_cases d : i = k
    · subst d; rw [if_pos rfl]
    · rw [if_neg d]
  · by_cases d : i = k
    · subst d
      rw [if_pos rfl, if_pos rfl]
      show _ = (l.getD i G0).n - 1 + 1
      omega
    · rw [if_neg d, if_neg (fun z => d z.symm)]; rfl
theorem covered_sub {s' s : List Nat} (u : s'.Sublist s) : ∀ {l : List Grant}, covered l s = true → covered l s' = true := by
  induction u with
  | slnil => exact fun c => c
  | @cons s' s h _ ih =>
    intro l c
    cases e : pick l h with
    | none => rw [covered_none e] at c; cases c
    | some i =>
      rw [covered_cons e] at c
      obtain ⟨h1, h2, _⟩ := pick_some_iff.mp e
      exact Near.covered (near_less l i h1 ((serves_eq _ _).mp h2).2.2) (ih c)
  | @cons_cons s' s h _ ih =>
    intro l c
    cases e : pick l h with
    | none => rw [covered_none e] at c; cases c
    | some i =>
      rw [covered_cons e] at c ⊢
      exact ih c

/-! ### t and some of c together -/
theorem rising_pw : ∀ {t : List Nat}, rising t = true ↔ t.Pairwise (· < ·)
  | [] => ⟨fun _ => List.Pairwise.nil, fun _ => rfl⟩
  | [a] => ⟨fun _ => List.pairwise_singleton .., fun _ => rfl⟩
  | a :: b :: r => by
    have ih := rising_pw (t := b :: r)
    show (decide (a < b) && rising (b :: r)) = true ↔ _
    rw [Bool.and_eq_true, decide_eq_true_iff, ih, List.pairwise_cons (a := a)]
    refine ⟨fun ⟨h1, h2⟩ => ⟨fun x hx => ?_, h2⟩, fun ⟨h1, h2⟩ => ⟨h1 b List.mem_cons_self, h2⟩⟩
    rcases List.mem_cons.mp hx with e | hx
    · rw [e]; exact h1
    · exact Nat.lt_trans h1 ((List.pairwise_cons.mp h2).1 x hx)
theorem okTaken_pw {t : List Nat} : okTaken t = true ↔ t.length ≤ 60 ∧ t.Pairwise (· < ·) ∧ ∀ h ∈ t, h < 800 := by
  unfold okTaken
  rw [Bool.and_eq_true, Bool.and_eq_true, decide_eq_true_iff, rising_pw, List.all_eq_true, and_assoc]
  exact and_congr_right fun _ => and_congr_right fun _ => ⟨fun h x hx => of_decide_eq_true (h x hx), fun h x hx => decide_eq_true (h x hx)⟩
/-- rising lists with the same halves are the same -/
theorem rise_ext : ∀ {s t : List Nat}, s.Pairwise (· < ·) → t.Pairwise (· < ·) → (∀ x, x ∈ s ↔ x ∈ t) → s = t
  | [], [], _, _, _ => rfl
  | [], b :: t, _, _, h => absurd ((h b).mpr List.mem_cons_self) (List.not_mem_nil)
  | a :: s, [], _, _, h => absurd ((h a).mp List.mem_cons_self) (List.not_mem_nil)
  | a :: s, b :: t, p, q, h => by
    obtain ⟨p1, p2⟩ := List.pairwise_cons.mp p
    obtain ⟨q1, q2⟩ := List.pairwise_cons.mp q
    have e : a = b := by
      rcases List.mem_cons.mp ((h a).mp List.mem_cons_self) with e | h1
      · exact e
      · rcases List.mem_cons.mp ((h b).mpr List.mem_cons_self) with e | h2
        · exact e.symm
        · have := p1 b h2
          have := q1 a h1
          omega
    subst e
    have r : s = t := rise_ext p2 q2 fun x => by
      refine ⟨fun hx => ?_, fun hx => ?_⟩
      · rcases List.mem_cons.mp ((h x).mp (List.mem_cons_of_mem _ hx)) with e | z
        · have := p1 x hx; omega
        · exact z
      · rcases List.mem_cons.mp ((h x).mpr (List.mem_cons_of_mem _ hx)) with e | z
        · have := q1 x hx; omega
        · exact z
    rw [r]
theorem merge_pw (t c : List Nat) : (merge t c).Pairwise (· < ·) := List.pairwise_lt_range.filter _
theorem mem_merge {t c : List Nat} {x : Nat} : x ∈ merge t c ↔ x < 800 ∧ (x ∈ t ∨ x ∈ c) := by
  unfold merge
  rw [List.mem_filter, List.mem_range, Bool.or_eq_true, List.contains_iff_mem, List.contains_iff_mem]
  exact Iff.rfl
/-- what merges t and c: rising, and with just their halves -/
theorem merge_of {s t c : List Nat} (hs : s.Pairwise (· < ·)) (ht : ∀ x ∈ t, x < 800) (hc : ∀ x ∈ c, x < 800) (h : ∀ x, x ∈ s ↔ x ∈ t ∨ x ∈ c) : merge t c = s :=
  rise_ext (merge_pw t c) hs fun x => by
    rw [mem_merge, h]
    exact ⟨fun z => z.2, fun z => ⟨z.elim (ht x) (hc x), z⟩⟩
theorem merge_nil {t : List Nat} (h : okTaken t = true) : merge t [] = t := by
  obtain ⟨_, h1, h2⟩ := okTaken_pw.mp h
  exact merge_of h1 h2 (fun x hx => absurd hx List.not_mem_nil) fun x => ⟨Or.inl, fun z => z.elim id fun y => absurd y List.not_mem_nil⟩
theorem filter_sub {p q : Nat → Bool} : ∀ {l : List Nat}, (∀ x ∈ l, p x = true → q x = true) → (l.filter p).Sublist (l.filter q)
  | [], _ => List.Sublist.slnil
  | x :: l, h => by
    have ih := filter_sub (p := p) (q := q) (l := l) fun y hy => h y (List.mem_cons_of_mem _ hy)
    rw [List.filter_cons, List.filter_cons]
    by_cases a : p x = true
    · rw [if_pos a, if_pos (h x List.mem_cons_self a)]
      exact ih.cons_cons x
    · rw [if_neg a]
      by_cases b : q x = true
      · rw [if_pos b]; exact ih.cons x
      · rw [if_neg b]; exact ih
theorem merge_sub {t c d : List Nat} (h : ∀ x ∈ d, x ∈ c) : (merge t d).Sublist (merge t c) :=
  filter_sub fun x _ z => by
    rw [Bool.or_eq_true, List.contains_iff_mem, List.contains_iff_mem] at z ⊢
    exact z.imp id (h x)
/-- with k of c's first ones -/
def fits (l : List Grant) (t c : List Nat) (k : Nat) : Bool := covered l (merge t (c.take k))
theorem fits_mono {l : List Grant} {t c : List Nat} {j k : Nat} (h : j ≤ k) (f : fits l t c k = true) : fits l t c j = true :=
  covered_sub (merge_sub fun x hx => List.take_subset_take_left c h hx) f
theorem fits_zero {l : List Grant} {t c : List Nat} (ht : okTaken t = true) : fits l t c 0 = covered l t := by
  unfold fits
  rw [List.take_zero, merge_nil ht]
theorem filter_lt (p : Nat → Bool) (K : Nat) : ∀ n, (∀ k, k < n → (p k = true ↔ k < K)) → ((List.range n).filter p).length = min n K
  | 0, _ => (Nat.zero_min K).symm
  | n + 1, h => by
    have ih := filter_lt p K n fun k hk => h k (Nat.lt_succ_of_lt hk)
    have hn := h n (Nat.lt_succ_self n)
    rw [List.range_succ, List.filter_append, List.length_append, ih]
    by_cases c : p n = true
    · have := hn.mp c
      rw [List.filter_cons, if_pos c]
      show min n K + 1 = _
      omega
    · have : ¬ n < K := fun z => c (hn.mpr z)
      rw [List.filter_cons, if_neg c]
      show min n K + 0 = _
      omega
/-- the most of c's first ones: K fit, and K is all of c or one more doesn't fit -/
theorem more_eq {l : List Grant} {t c : List Nat} {K : Nat} (hK : K ≤ c.length) (f : fits l t c K = true) (g : K < c.length → fits l t c (K + 1) = false) : more l t c = K := by
  have e := filter_lt (fits l t c) (K + 1) (c.length + 1) fun k hk => by
    refine ⟨fun z => ?_, fun z => fits_mono (by omega) f⟩
    apply Decidable.byContradiction
    intro y
    have := fits_mono (j := K + 1) (by omega) z
    rw [g (by omega)] at this
    cases this
  show ((List.range (c.length + 1)).filter (fits l t c)).length - 1 = K
  rw [e]
  omega
end Lg

set_option Elab.async false
set_option maxRecDepth 100000
set_option maxHeartbeats 2000000
namespace Lg
open PySem PySem.Spec PyProof.Rows L2
open PySem.W (Codec)
def top (i : Nat) : Stmt := PySem.Challenge.pw_lapsegrants_s01_covered.main.body.getD i (.Pass ⟨0, 0, 0, 0⟩)
abbrev sCov : Stmt := top 5
abbrev sAre : Stmt := top 6
abbrev sGok : Stmt := top 7
abbrev sHok : Stmt := top 8
abbrev sThr : Stmt := top 9
abbrev sPlu : Stmt := top 10
abbrev sPla : Stmt := top 11
abbrev sMay : Stmt := top 12
/-- a def of the program's, as it stands behind the top -/
structure Df (K : PySem.W.Frag) (mg : Str → Option Value) (x : Str) (st : Stmt) (ps : List Str) where
  f : Addr
  fd : FuncData
  g : mg x = some (.ref f)
  F : Fun K x x st f fd
  b : Binds K fd ps []
/-- what the top leaves -/
structure All (K : PySem.W.Frag) (mg : Str → Option Value) where
  z_range : mg "range" = none
  z_len : mg "len" = none
  cLH : ∃ t, mg "LAST_HALF" = some (.int 799 t)
  cMG : ∃ t, mg "MOST_GRANTS" = some (.int 10 t)
  cMN : ∃ t, mg "MOST_GRANTED" = some (.int 100 t)
  cMT : ∃ t, mg "MOST_TAKEN" = some (.int 60 t)
  cov : Df K mg "covered" sCov ["l", "t"]
  are : Df K mg "are_as_told" sAre ["l", "t"]
  gok : Df K mg "grants_are_as_told" sGok ["l"]
  hok : Df K mg "halves_are_as_told" sHok ["t"]
  thr : Df K mg "threes" sThr ["l"]
  plu : Df K mg "places_used" sPlu ["grants", "t"]
  pla : Df K mg "place_to_use" sPla ["grants", "rest", "half"]
  may : Df K mg "may_be_taken" sMay ["grant", "half"]
end Lg

set_option Elab.async false
set_option maxRecDepth 100000
set_option maxHeartbeats 2000000
namespace Lg
open PySem PySem.Spec PyProof.Rows L2
open PySem.W (Codec)
open Kyi2 (Grant)
/-- a grant as the program holds it -/
def gV (g : Grant) : List V := [.int (g.a : Nat), .int (g.b : Nat), .int (g.n : Nat)]
/-- naturals as a list of the program's numbers -/
def nV (l : List Nat) : List V := l.map fun (n : Nat) => V.int (n : Int)
theorem nV_len (l : List Nat) : (nV l).length = l.length := List.length_map ..
theorem nV_get {l : List Nat} {i n : Nat} (h : l[i]? = some n) : (nV l)[i]? = some (V.int (n : Int)) := by
  unfold nV
  rw [List.getElem?_map, h]; rfl
theorem nV_inv {l : List Nat} {i : Nat} {y : V} (h : (nV l)[i]? = some y) : ∃ n, l[i]? = some n ∧ y = V.int (n : Nat) := by
  unfold nV at h
  rw [List.getElem?_map] at h
  cases e : l[i]? with
  | none => rw [e] at h; cases h
  | some n => rw [e] at h; exact ⟨n, rfl, (Option.some.inj h).symm⟩
theorem getD_some {l : List Nat} {i : Nat} (h : i < l.length) : l[i]? = some (l.getD i 0) := by
  rw [List.getD_eq_getElem?_getD, List.getElem?_eq_getElem h]; rfl
theorem getD_of {l : List Nat} {i n : Nat} (h : l[i]? = some n) : l.getD i 0 = n := by
  rw [List.getD_eq_getElem?_getD, h]; rfl
/-- the list of tuples at p stands for the grants gs -/
structure GrAt (H : Hp) (p : Addr) (as : List Addr) (gs : List Grant) : Prop where
  lst : H p = some (.lst (as.map V.ref))
  len : as.length = gs.length
  tup : ∀ (i : Nat) (a : Addr) (g : Grant), as[i]? = some a → gs[i]? = some g → H a = some (.tup (gV g))
theorem GrAt.same {H H' : Hp} {p : Addr} {as : List Addr} {gs : List Grant} (G : GrAt H p as gs) (s : Same H H') : GrAt H' p as gs :=
  ⟨s _ _ G.lst, G.len, fun i a g h1 h2 => s _ _ (G.tup i a g h1 h2)⟩
def optV : Option Nat → V
  | none => .non
  | some i => .int (i : Nat)
theorem atz {xs : List V} {z : Int} {j : Nat} {v : V} (e : z = (j : Int)) (h : xs[j]? = some v) : atI xs z = some v := by
  rw [e]
  exact atI_nat h
section
variable {P : Program} {w : World} {K : PySem.W.Frag} {mg : Str → Option Value} {base : Heap}
def spMay : Sp := fun vs H Q _ => ∃ (a : Addr) (g : Grant) (h : Nat), vs = [.ref a, .int (h : Nat)] ∧ H a = some (.tup (gV g)) ∧ Q (.bl (decide (g.a ≤ h) && decide (h ≤ g.b))) H
theorem scMay : FnScope ["grant", "half"] ["grant", "half"] (defScope sMay) := ⟨rfl, rfl, rfl, by decide +kernel, rfl, by decide +kernel, by decide +kernel⟩
theorem ok_may (A : All K mg) : FnOk P w K mg base CX0 1 A.may.f A.may.fd ["grant", "half"] spMay := by
  refine A.may.F.ok scMay (fun vs H Q E h => ?_) (fun cdv Ar outer s H vs Q E hr h => ?_)
  · obtain ⟨a, g, h, rfl, _⟩ := h
    rfl
  · obtain ⟨a, g, h, rfl, ha, k⟩ := h
    refine ⟨_, pss_one (ps_ret (pe_and (pe_cmpR op_le (pe_ix ix_tup (pv 0) pe_int (fun _ _ => rfl)) (pv 1) (nomark _)) (pe_one (pe_cmpR op_le (pv 1) (pe_ix ix_tup (pv 0) pe_int (fun _ _ => rfl)) (nomark _))))), ?_⟩
    refine ⟨_, rfl, a, gV g, 0, .int (g.a : Nat), rfl, rfl, SqT.of ha, rfl, _, rfl, _, _, rfl, rfl, _, rfl, ?_⟩
    refine ite2 (fun c => ?_) (fun c => ?_)
    · have c : g.a ≤ h := by have := of_decide_eq_true c; omega
      refine ⟨_, rfl, _, rfl, a, gV g, 1, .int (g.b : Nat), rfl, rfl, SqT.of ha, rfl, _, _, rfl, rfl, ?_⟩
      have e : (decide (g.a ≤ h) && decide (h ≤ g.b)) = decide ((h : Int) ≤ (g.b : Int)) := by
        rw [decide_eq_true c, Bool.true_and]
        exact decide_eq_decide.mpr (by omega)
      rw [e] at k
      exact k
    · have c : ¬ g.a ≤ h := fun z => c (decide_eq_true (by omega))
      have e : (decide (g.a ≤ h) && decide (h ≤ g.b)) = false := by
        rw [decide_eq_false c, Bool.false_and]
      rw [e] at k
      exact k
end
end Lg

set_option Elab.async false
set_option maxRecDepth 100000
set_option maxHeartbeats 2000000
namespace Lg
open PySem PySem.Spec PyProof.Rows L2
open PySem.W (Codec)
open Kyi2 (Grant serves pick)
section
variable {P : Program} {w : World} {K : PySem.W.Frag} {mg : Str → Option Value} {base : Heap}
def spPla : Sp := fun vs H Q _ => ∃ (p r : Addr) (h : Nat) (as : List Addr) (gs : List Grant) (ns : List Nat), vs = [.ref p, .ref r, .int (h : Nat)] ∧ GrAt H p as gs ∧ H r = some (.lst (nV ns)) ∧ ns.length = gs.length ∧ gs.length ≤ 1000 ∧
  Q (optV (pick (cur gs ns) h)) H
theorem scPla : FnScope ["grants", "rest", "half", "found", "place"] ["grants", "rest", "half"] (defScope sPla) := ⟨rfl, rfl, rfl, by decide +kernel, rfl, by decide +kernel, by decide +kernel⟩
theorem serves_iff (g : Grant) (n h : Nat) : serves { g with n := n } h = true ↔ ¬ n = 0 ∧ (decide (g.a ≤ h) && decide (h ≤ g.b)) = true := by
  unfold serves
  rw [Bool.and_eq_true, decide_eq_true_iff]
  show (decide (g.a ≤ h) && decide (h ≤ g.b)) = true ∧ 0 < n ↔ _
  exact ⟨fun ⟨a, b⟩ => ⟨by omega, a⟩, fun ⟨a, b⟩ => ⟨b, by omega⟩⟩
theorem ok_pla (A : All K mg) : FnOk P w K mg base CX0 2 A.pla.f A.pla.fd ["grants", "rest", "half"] spPla := by
  have GM : FnOk P w K mg base CX0 1 A.may.f A.may.fd ["grant", "half"] spMay := ok_may A
  refine A.pla.F.ok scPla (fun vs H Q E h => ?_) (fun cdv Ar outer s H vs Q E hr h => ?_)
  · obtain ⟨p, r, h, as, gs, ns, rfl, _⟩ := h
    rfl
  · obtain ⟨p, r, h, as, gs, ns, rfl, G, hr1, hl, hm, k⟩ := h
    refine ⟨_, pss_cons (ps_set (i := 3) scPla.nd rfl (Or.inl rfl) pe_non)
      (pss_cons (ps_for PassesOwn.never rfl (pi_range1 rfl A.z_range (pa_cons (pe_callB call_len_seq (by rfl) A.z_len PySem.boot_len (pa_cons (pv 0) pa_nil)) pa_nil)) (pg_name (i := 4) scPla.nd rfl (Or.inl rfl))
        (pss_cons (ps_if (PW.pt (pw_or (pt_cmpR op_eq (pe_ix ix_list (pv 1) (pv 4) (fun _ _ => rfl)) pe_int (nomark _))
            (pw_or1 (pt_not (pt_val (pe_call GM hr rfl A.may.g A.may.F.kp A.may.b .nil pass0 (pa_cons (pe_ix ix_list (pv 0) (pv 4) (fun _ _ => rfl)) (pa_cons (pv 2) pa_nil))))))))
            (pss_one ps_continue) pss_nil)
        (pss_one (ps_if (PW.pt (pw_or (pt_cmpR op_isN (pv 3) pe_non (nomark _))
            (pw_or1 (pt_cmpR op_lt (pe_ix ix_tup (pe_ix ix_list (pv 0) (pv 4) (fun _ _ => rfl)) pe_int (fun _ _ => rfl)) (pe_ix ix_tup (pe_ix ix_list (pv 0) (pv 3) (fun _ _ => rfl)) pe_int (fun _ _ => rfl)) (nomark _)))))
            (pss_one (ps_set (i := 3) scPla.nd rfl (Or.inl rfl) (pv 4))) pss_nil))))
      (pss_one (ps_ret (pv 3)))), ?_⟩
    refine ⟨_, rfl, p, _, rfl, .inl (SqL.of G.lst), ?_⟩
    have eL : (as.map V.ref).length = gs.length := by rw [List.length_map]; exact G.len
    rw [eL]
    refine ⟨_, rfl, by omega, by omega, for_range (lo := 0) (n := _) (fun i σ H' => H' = H ∧ ∃ v : Option V, σ = [some (.ref p), some (.ref r), some (.int (h : Nat)), some (optV (best (cur gs ns) h i)), v]) ⟨rfl, none, rfl⟩ ?_ ?_⟩
    · rintro i σ H' hi ⟨rfl, v, rfl⟩
      have hi : i < gs.length := by simpa using hi
      obtain ⟨g, hg⟩ : ∃ g, gs[i]? = some g := ⟨_, List.getElem?_eq_getElem hi⟩
      obtain ⟨a, ha⟩ : ∃ a, as[i]? = some a := ⟨_, List.getElem?_eq_getElem (by rw [G.len]; exact hi)⟩
      obtain ⟨n, hn⟩ : ∃ n, ns[i]? = some n := ⟨_, List.getElem?_eq_getElem (by rw [hl]; exact hi)⟩
      have hta := G.tup i a g ha hg
      have ez : (0 : Int) + (i : Nat) = (i : Nat) := Int.zero_add _
      have haV : (as.map V.ref)[i]? = some (V.ref a) := by rw [List.getElem?_map, ha]; rfl
      have hs := best_succ (cur gs ns) h i
      have hcd := cur_getD hg hn
      refine ⟨_, rfl, _, rfl, r, nV ns, _, V.int (n : Nat), rfl, rfl, SqL.of hr1, atz ez (nV_get hn), rfl, _, rfl, ?_⟩
      refine ite2 (fun c => ?_) (fun c => ?_)
      · -- nothing left
        have c : n = 0 := by simpa using c
        refine iteT ?_
        refine ⟨rfl, some (V.int (0 + (i : Nat))), ?_⟩
        have e : best (cur gs ns) h (i + 1) = best (cur gs ns) h i := by
          rw [hs]; unfold step; rw [hcd, if_neg (fun z => ((serves_iff g n h).mp z).1 c)]
        rw [e]
        rfl
      · have c : ¬ n = 0 := fun z => c (by rw [z]; rfl)
        refine ⟨_, rfl, _, rfl, p, _, _, _, rfl, rfl, SqL.of G.lst, atz ez haV, _, rfl, a, g, h, rfl, hta, _, rfl, ?_⟩
        cases d : (decide (g.a ≤ h) && decide (h ≤ g.b)) with
        | false =>
          refine iteT ?_
          refine ⟨rfl, some (V.int (0 + (i : Nat))), ?_⟩
          have e : best (cur gs ns) h (i + 1) = best (cur gs ns) h i := by
            rw [hs]; unfold step; rw [hcd, if_neg (fun z => by have := ((serves_iff g n h).mp z).2; rw [d] at this; cases this)]
          rw [e]
          rfl
        | true =>
          refine iteF ?_
          have sv := (serves_iff g n h).mpr ⟨c, d⟩
          refine ⟨_, rfl, rfl, _, rfl, ?_⟩
          cases q : best (cur gs ns) h i with
          | none =>
            refine iteT (iteT ?_)
            refine ⟨_, rfl, rfl, some (V.int (0 + (i : Nat))), ?_⟩
            have e : best (cur gs ns) h (i + 1) = some i := by
              rw [hs, q]; unfold step; rw [hcd, if_pos sv]
            rw [e]
            exact congrArg (fun z : Int => [some (V.ref p), some (V.ref r), some (V.int (h : Nat)), some (V.int z), some (V.int (0 + (i : Nat)))]) ez
          | some j =>
            obtain ⟨hj, _⟩ := best_ok _ _ _ _ q
            have hjl : j < gs.length := Nat.lt_trans hj hi
            obtain ⟨g', hg'⟩ : ∃ g, gs[j]? = some g := ⟨_, List.getElem?_eq_getElem hjl⟩
            obtain ⟨a', ha'⟩ : ∃ a, as[j]? = some a := ⟨_, List.getElem?_eq_getElem (by rw [G.len]; exact hjl)⟩
            obtain ⟨n', hn'⟩ : ∃ n, ns[j]? = some n := ⟨_, List.getElem?_eq_getElem (by rw [hl]; exact hjl)⟩
            have hta' := G.tup j a' g' ha' hg'
            have haV' : (as.map V.ref)[j]? = some (V.ref a') := by rw [List.getElem?_map, ha']; rfl
            refine iteF ?_
            refine ⟨_, rfl, _, rfl, p, _, _, _, rfl, rfl, SqL.of G.lst, atz ez haV, a, gV g, 1, .int (g.b : Nat), rfl, rfl, SqT.of hta, rfl, _, rfl, _, rfl, p, _, _, _, rfl, rfl, SqL.of G.lst, atz rfl haV', a', gV g', 1, .int (g'.b : Nat), rfl, rfl, SqT.of hta', rfl, _, _, rfl, rfl, _, rfl, ?_⟩
            have e : best (cur gs ns) h (i + 1) = some (if g.b < g'.b then i else j) := by
              rw [hs, q]; unfold step; rw [hcd, if_pos sv]
              show some (if g.b < ((cur gs ns).getD j ⟨0, 0, 0⟩).b then i else j) = _
              rw [cur_getD hg' hn']
            refine ite2 (fun z => ?_) (fun z => ?_)
            · have z : g.b < g'.b := by have := of_decide_eq_true z; omega
              rw [if_pos z] at e
              refine ⟨_, rfl, rfl, some (V.int (0 + (i : Nat))), ?_⟩
              rw [e]
              exact congrArg (fun z : Int => [some (V.ref p), some (V.ref r), some (V.int (h : Nat)), some (V.int z), some (V.int (0 + (i : Nat)))]) ez
            · have z : ¬ g.b < g'.b := fun y => z (decide_eq_true (by omega))
              rw [if_neg z] at e
              refine ⟨rfl, some (V.int (0 + (i : Nat))), ?_⟩
              rw [e]
              rfl
    · rintro σ H' ⟨rfl, v, rfl⟩
      have en : ((gs.length : Int)).toNat = gs.length := by omega
      refine ⟨_, rfl, ?_⟩
      rw [pick_best, cur_len hl] at k
      rw [en]
      exact k
end
end Lg

set_option Elab.async false
set_option maxRecDepth 100000
set_option maxHeartbeats 2000000
namespace Lg
open PySem PySem.Spec PyProof.Rows L2
open PySem.W (Codec)
open Kyi2 (Grant grants)
theorem ix_listK {X : Cx} {K : PySem.W.Frag} (h : X.K = K := by rfl) : IxR X (rIxL K) := by
  subst h
  exact ix_list
/-- what one turn of a comprehension is to do: the item's value is added to the new list at D, or left out -/
abbrev Turned (g : TG) (tt : TT) (te : TE) (ws : List Nat) (z : L2.St) (D : Addr) (x : V) (G : Hp) (goal : Hp → Prop) : Prop :=
  g x (wipe z ws) G fun z2 G2 => wipe z2 ws = wipe z ws ∧
    tt z2 G2 fun kept G3 => if kept = true then
      te z2 G3 (fun y G4 => ∃ made, G4 D = some (.lst made) ∧ made.length < sizeLine ∧ goal (upd G4 D (.lst (made ++ [y]))))
    else goal G3
/-- a comprehension over lo, lo + c, .. (n of them), by what holds ahead of each turn -/
theorem comp_counted {lo c : Int} {n : Nat} {g : TG} {tt : TT} {te : TE} {ws : List Nat} {z : L2.St} {G0 : Hp} {D : Addr} {fin : Hp → Prop} (Pv : Nat → Hp → Prop)
    (start : Pv 0 (upd G0 D (.lst [])))
    (turn : ∀ (i : Nat) G, i < n → Pv i G → Turned g tt te ws z D (.int (lo + (i : Nat) * c)) G (Pv (i + 1)))
    (done : ∀ G, Pv n G → fin G) :
    ∃ I : Nat → Nat → Hp → Prop, (∃ k, I 0 k (upd G0 D (.lst []))) ∧
      ∀ i k G, I i k G → ((Itc lo c n).stop i G ∧ fin G) ∨
        ((Itc lo c n).go i G ∧ ∃ goal : Hp → Prop, (∀ G', goal G' → ∃ k', k' < k ∧ I (i + 1) k' G') ∧
          ∀ x G', (Itc lo c n).yld i G x G' → Turned g tt te ws z D x G' goal) := by
  refine ⟨fun i k G => k + i = n ∧ Pv i G, ⟨n, Nat.add_zero n, start⟩, fun i k G h => ?_⟩
  obtain ⟨hk, hp⟩ := h
  cases k with
  | zero =>
    have e : i = n := by omega
    rw [e] at hp
    exact .inl ⟨(by show n ≤ i; omega), done G hp⟩
  | succ k =>
    have hi : i < n := by omega
    refine .inr ⟨hi, Pv (i + 1), fun G' q => ⟨k, Nat.lt_succ_self k, (by omega), q⟩, fun x G' y => ?_⟩
    obtain ⟨e1, e2⟩ := y
    rw [e1, e2]
    exact turn i G hi hp
theorem rg3 {len : Int} {m : Nat} (h : len = 3 * (m : Nat)) (hm : m ≤ 1000) : RgC 0 len 3 m := by
  have e : Builtin.Range.rangeSize 0 len 3 = m := by
    unfold Builtin.Range.rangeSize
    simp only [show ((3 : Int) > 0) by decide, if_true]
    split <;> omega
  refine ⟨by decide, by decide, ?_, e⟩
  unfold Builtin.Range.small
  rw [e]
  simp only [Builtin.Range.rangeFitsLong, Bool.and_eq_true, Bool.or_eq_true, decide_eq_true_eq, beq_iff_eq, show ((3 : Int) > 0) by decide, if_true]
  omega
theorem take_snoc {α : Type} {l : List α} {i : Nat} {x : α} (h : l[i]? = some x) : l.take (i + 1) = l.take i ++ [x] := by
  rw [List.take_add_one, h]
  rfl
theorem GrAt.push {H : Hp} {D p : Addr} {as : List Addr} {gs : List Grant} {g : Grant} (G : GrAt H D as gs) (hp : H p = none) :
    GrAt (upd (upd H p (.tup (gV g))) D (.lst (as.map V.ref ++ [V.ref p]))) D (as ++ [p]) (gs ++ [g]) := by
  have np : p ≠ D := fun e => by rw [e, G.lst] at hp; cases hp
  refine ⟨?_, ?_, fun i a g' h1 h2 => ?_⟩
  · rw [upd_same, List.map_append]; rfl
  · rw [List.length_append, List.length_append, G.len]; rfl
  · by_cases hi : i < as.length
    · rw [List.getElem?_append_left hi] at h1
      rw [List.getElem?_append_left (by rw [← G.len]; exact hi)] at h2
      have q := G.tup i a g' h1 h2
      have n1 : a ≠ D := ne_of q G.lst (by intro z; cases z)
      have n2 : a ≠ p := ne_of_none q hp
      rw [upd_ne n1, upd_ne n2]
      exact q
    · have hi : as.length ≤ i := Nat.le_of_not_lt hi
      rw [List.getElem?_append_right hi] at h1
      rw [List.getElem?_append_right (by rw [← G.len]; exact hi)] at h2
      rw [G.len] at h1
      cases hk : i - gs.length with
      | zero =>
        rw [hk] at h1 h2
        have e1 : p = a := Option.some.inj h1
        have e2 : g = g' := Option.some.inj h2
        subst e1 e2
        rw [upd_ne np, upd_same]
      | succ k => rw [hk] at h1; simp at h1
section
variable {P : Program} {w : World} {K : PySem.W.Frag} {mg : Str → Option Value} {base : Heap}
def spThr (K : PySem.W.Frag) : Sp := fun vs H Q _ => ∃ (a : Addr) (l : List Nat) (m : Nat), vs = [.ref a] ∧ SqL K H a (nV l) ∧ l.length = 3 * m ∧ m ≤ 1000 ∧
  ∀ (H' : Hp) (p : Addr) (as : List Addr), Same H H' → H p = none → GrAt H' p as (grants l) → Q (.ref p) H'
theorem scThr : FnScope ["l", "k"] ["l"] (defScope sThr) := ⟨rfl, rfl, rfl, by decide +kernel, rfl, by decide +kernel, by decide +kernel⟩
theorem ok_thr (A : All K mg) : FnOk P w K mg base CX0 1 A.thr.f A.thr.fd ["l"] (spThr K) := by
  refine A.thr.F.ok scThr (fun vs H Q E h => ?_) (fun cdv Ar outer s H vs Q E hr h => ?_)
  · obtain ⟨a, l, m, rfl, _⟩ := h
    rfl
  · obtain ⟨a, l, m, rfl, hS, hl, hm, k⟩ := h
    refine ⟨_, pss_one (ps_ret (pe_lc (own := [("k", 1)]) (g := gName 1) (tt := tYes) rfl scThr.nd (pi_range3 rfl A.z_range (pa_cons pe_int (pa_cons (pe_callB call_len_seq (by rfl) A.z_len PySem.boot_len (pa_cons (pv 0) pa_nil)) (pa_cons pe_int pa_nil))))
      (blkOk_by (own := [("k", 1)]) (N := ["l", "k"]) (sc := defScope sThr) (by decide +kernel)) (fun _ _ _ _ _ => pg_name (i := 1) scThr.nd rfl (Or.inl rfl)) (fun _ _ _ _ _ => pts_nil)
      (fun _ _ _ _ _ => pe_tup (pa_cons (pe_ix (ix_listK (K := K)) (pv 0) (pv 1) (fun _ _ => rfl)) (pa_cons (pe_ix (ix_listK (K := K)) (pv 0) (pe_op op_add (pv 1) pe_int) (fun _ _ => rfl)) (pa_cons (pe_ix (ix_listK (K := K)) (pv 0) (pe_op op_add (pv 1) pe_int) (fun _ _ => rfl)) pa_nil)))))), ?_⟩
    refine ⟨_, rfl, a, _, rfl, .inl hS, 0, _, 3, m, rfl, rg3 (by rw [nV_len, hl]; omega) hm, fun D hD => comp_counted (lo := 0) (c := 3) (n := m) (fun i H' => Same H H' ∧ ∃ as, GrAt H' D as ((grants l).take i)) ?_ ?_ ?_⟩
    · refine ⟨fun b o e => by rw [upd_ne (ne_of_none e hD)]; exact e, [], ?_⟩
      exact ⟨upd_same, rfl, fun i a g h1 _ => by simp at h1⟩
    · rintro i H' hi ⟨s5, as, G⟩
      have hg := grants_get m l hl i hi
      have S5 := s5.seq hS
      have q0 := nV_get (getD_some (l := l) (i := 3 * i) (by omega))
      have q1 := nV_get (getD_some (l := l) (i := 3 * i + 1) (by omega))
      have q2 := nV_get (getD_some (l := l) (i := 3 * i + 2) (by omega))
      refine ⟨rfl, ?_⟩
      refine iteT (B := Same H H' ∧ ∃ as, GrAt H' D as ((grants l).take (i + 1))) ?_
      refine ⟨_, rfl, _, rfl, a, _, _, _, rfl, rfl, S5, atz (by omega) q0, _, rfl, _, rfl, _, _, rfl, rfl, a, _, _, _, rfl, rfl, S5, atz (by omega) q1, _, rfl, _, rfl, _, _, rfl, rfl, a, _, _, _, rfl, rfl, S5, atz (by omega) q2, (by show 3 ≤ sizeLine; decide), fun p hp => ?_⟩
      have np : D ≠ p := ne_of_none G.lst hp
      have el : as.length = i := by
        rw [G.len, List.length_take, grants_len m l hl]; omega
      refine ⟨as.map V.ref, ?_, ?_, ?_, as ++ [p], ?_⟩
      · rw [upd_ne np]; exact G.lst
      · rw [List.length_map, el]; exact small1000 (by omega)
      · intro b o e
        have z := s5 b o e
        have n1 : b ≠ D := ne_of_none e hD
        have n2 : b ≠ p := ne_of_none z hp
        rw [upd_ne n1, upd_ne n2]
        exact z
      · rw [take_snoc hg]
        exact G.push (g := ⟨l.getD (3 * i) 0, l.getD (3 * i + 1) 0, l.getD (3 * i + 2) 0⟩) hp
    · rintro H' ⟨s5, as, G⟩
      rw [List.take_of_length_le (by rw [grants_len m l hl]; exact Nat.le_refl _)] at G
      exact k H' D as s5 hD G
end
end Lg

set_option Elab.async false
set_option maxRecDepth 100000
set_option maxHeartbeats 2000000
namespace Lg
open PySem PySem.Spec PyProof.Rows L2
open PySem.W (Codec)
open Kyi2 (Grant grants okTaken okGrant use pick)
theorem pg_tupK {X : Cx} {K : PySem.W.Frag} {es : List Expr} {k : Nat} {t : TGs} {n : Nat} {pos : Pos} (hc : X.calm = true) (h : PGs X es t) (hK : X.K = K := by rfl)
    (hn : (assignEach es X.env).length = n := by rfl) (hst : (assignEach es X.env).findIdx? (·.1) = none := by rfl) : PG X (.Tuple es k pos) (gTup K n t) := by
  subst hK
  exact pg_tup hc h hn hst
section
variable {P : Program} {w : World} {K : PySem.W.Frag} {mg : Str → Option Value} {base : Heap}
/-! ### halves_are_as_told -/
def spHok (K : PySem.W.Frag) : Sp := fun vs H Q _ => ∃ (a : Addr) (t : List Nat), vs = [.ref a] ∧ SqL K H a (nV t) ∧ t.length ≤ 1000 ∧ Q (.bl (okTaken t)) H
theorem scHok : FnScope ["t", "place"] ["t"] (defScope sHok) := ⟨rfl, rfl, rfl, by decide +kernel, rfl, by decide +kernel, by decide +kernel⟩
theorem okT_false {t : List Nat} (h : ¬ (t.length ≤ 60 ∧ ∀ i, i < t.length → halfOk t i)) : okTaken t = false := by
  cases e : okTaken t with
  | false => rfl
  | true => exact absurd ((okTaken_iff t).mp e) h
theorem ok_hok (A : All K mg) : FnOk P w K mg base CX0 1 A.hok.f A.hok.fd ["t"] (spHok K) := by
  obtain ⟨t1, g1⟩ := A.cMT
  obtain ⟨t2, g2⟩ := A.cLH
  refine A.hok.F.ok scHok (fun vs H Q E h => ?_) (fun cdv Ar outer s H vs Q E hr h => ?_)
  · obtain ⟨a, t, rfl, _⟩ := h
    rfl
  · obtain ⟨a, t, rfl, hS, hl, k⟩ := h
    refine ⟨_, pss_cons (ps_if (pt_cmpR op_gt (pe_callB call_len_seq (by rfl) A.z_len PySem.boot_len (pa_cons (pv 0) pa_nil)) (pe_glob (v := .int 60) rfl g1 ⟨_, rfl⟩) (nomark _)) (pss_one (ps_ret pe_bl)) pss_nil)
      (pss_cons (ps_for PassesOwn.never rfl (pi_range1 rfl A.z_range (pa_cons (pe_callB call_len_seq (by rfl) A.z_len PySem.boot_len (pa_cons (pv 0) pa_nil)) pa_nil)) (pg_name (i := 1) scHok.nd rfl (Or.inl rfl))
        (pss_cons (ps_if (pt_cmpR op_gt (pe_ix ix_list (pv 0) (pv 1) (fun _ _ => rfl)) (pe_glob (v := .int 799) rfl g2 ⟨_, rfl⟩) (nomark _)) (pss_one (ps_ret pe_bl)) pss_nil)
        (pss_one (ps_if (PW.pt (pw_and (pt_cmpR op_gt (pv 1) pe_int (nomark _)) (pw_and1 (pt_cmpR op_le (pe_ix ix_list (pv 0) (pv 1) (fun _ _ => rfl)) (pe_ix ix_list (pv 0) (pe_op op_sub (pv 1) pe_int) (fun _ _ => rfl)) (nomark _))))) (pss_one (ps_ret pe_bl)) pss_nil))))
      (pss_one (ps_ret pe_bl))), ?_⟩
    refine ⟨_, rfl, a, _, rfl, .inl hS, _, _, rfl, rfl, _, rfl, ?_⟩
    rw [nV_len]
    refine ite2 (fun c => ?_) (fun c => ?_)
    · have c : 60 < t.length := by have := of_decide_eq_true c; omega
      have e := okT_false (t := t) (fun z => by omega)
      rw [e] at k
      exact k
    · have c : t.length ≤ 60 := by
        have := of_decide_eq_false (Bool.eq_false_iff.mpr c)
        omega
      refine ⟨_, rfl, a, _, rfl, .inl hS, ?_⟩
      rw [nV_len]
      refine ⟨_, rfl, by omega, by omega, for_range (lo := 0) (n := _) (fun i σ H' => H' = H ∧ (∀ j, j < i → halfOk t j) ∧ ∃ v : Option V, σ = [some (.ref a), v]) ⟨rfl, fun j hj => absurd hj (Nat.not_lt_zero _), none, rfl⟩ ?_ ?_⟩
      · rintro i σ H' hi ⟨rfl, ok, v, rfl⟩
        have hi : i < t.length := by simpa using hi
        have q0 := nV_get (getD_some hi)
        have ez : (0 : Int) + (i : Nat) = (i : Nat) := Int.zero_add _
        refine ⟨_, rfl, _, rfl, a, _, _, _, rfl, rfl, hS, atz ez q0, _, _, rfl, rfl, _, rfl, ?_⟩
        refine ite2 (fun z => ?_) (fun z => ?_)
        · have z : 799 < t.getD i 0 := by have := of_decide_eq_true z; omega
          have e := okT_false (t := t) (fun y => by have := (y.2 i hi).1; omega)
          rw [e] at k
          exact k
        · have z : t.getD i 0 < 800 := by
            have := of_decide_eq_false (Bool.eq_false_iff.mpr z)
            omega
          refine ⟨_, rfl, _, _, rfl, rfl, _, rfl, ?_⟩
          refine ite2 (fun y => ?_) (fun y => ?_)
          · have y : 0 < i := by have := of_decide_eq_true y; omega
            have q1 := nV_get (getD_some (l := t) (i := i - 1) (by omega))
            refine ⟨_, rfl, _, rfl, a, _, _, _, rfl, rfl, hS, atz ez q0, _, rfl, _, rfl, _, _, rfl, rfl, a, _, _, _, rfl, rfl, hS, atz (by omega) q1, _, _, rfl, rfl, _, rfl, ?_⟩
            refine ite2 (fun x => ?_) (fun x => ?_)
            · have x : t.getD i 0 ≤ t.getD (i - 1) 0 := by have := of_decide_eq_true x; omega
              have e := okT_false (t := t) (fun y' => by have := (y'.2 i hi).2 y; omega)
              rw [e] at k
              exact k
            · have x : t.getD (i - 1) 0 < t.getD i 0 := by
                have := of_decide_eq_false (Bool.eq_false_iff.mpr x)
                omega
              refine ⟨rfl, fun j hj => ?_, some (V.int (0 + (i : Nat))), rfl⟩
              by_cases e : j = i
              · subst e
                exact ⟨z, fun _ => x⟩
              · exact ok j (by omega)
          · have y : i = 0 := by
              have := of_decide_eq_false (Bool.eq_false_iff.mpr y)
              omega
            refine iteF ?_
            refine ⟨rfl, fun j hj => ?_, some (V.int (0 + (i : Nat))), rfl⟩
            by_cases e : j = i
            · subst e
              exact ⟨z, fun w' => absurd w' (by omega)⟩
            · exact ok j (by omega)
      · rintro σ H' ⟨rfl, ok, v, rfl⟩
        have e : okTaken t = true := (okTaken_iff t).mpr ⟨c, fun i hi => ok i (by omega)⟩
        rw [e] at k
        exact k
/-! ### grants_are_as_told -/
def spGok (K : PySem.W.Frag) : Sp := fun vs H Q _ => ∃ (a : Addr) (l : List Nat), vs = [.ref a] ∧ SqL K H a (nV l) ∧ l.length ≤ 1000 ∧ ∀ H' : Hp, Same H H' → Q (.bl (okL l)) H'
theorem scGok : FnScope ["l", "first", "last", "many"] ["l"] (defScope sGok) := ⟨rfl, rfl, rfl, by decide +kernel, rfl, by decide +kernel, by decide +kernel⟩
theorem okL_false {l : List Nat} (h : ¬ (l.length % 3 = 0 ∧ (grants l).length ≤ 10 ∧ ∀ (i : Nat) (g : Grant), (grants l)[i]? = some g → okGrant g = true)) : okL l = false := by
  cases e : okL l with
  | false => rfl
  | true => exact absurd ((okL_iff l).mp e) h
theorem ok_gok (A : All K mg) : FnOk P w K mg base CX0 2 A.gok.f A.gok.fd ["l"] (spGok K) := by
  have GT : FnOk P w K mg base CX0 1 A.thr.f A.thr.fd ["l"] (spThr K) := ok_thr A
  obtain ⟨t1, g1⟩ := A.cMG
  obtain ⟨t2, g2⟩ := A.cLH
  obtain ⟨t3, g3⟩ := A.cMN
  refine A.gok.F.ok scGok (fun vs H Q E h => ?_) (fun cdv Ar outer s H vs Q E hr h => ?_)
  · obtain ⟨a, l, rfl, _⟩ := h
    rfl
  · obtain ⟨a, l, rfl, hS, hl, k⟩ := h
    refine ⟨_, pss_cons (ps_if (PW.pt (pw_or (pt_cmpR op_ne (pe_op op_mod (pe_callB call_len_seq (by rfl) A.z_len PySem.boot_len (pa_cons (pv 0) pa_nil)) pe_int) pe_int (nomark _))
          (pw_or1 (pt_cmpR op_gt (pe_callB call_len_seq (by rfl) A.z_len PySem.boot_len (pa_cons (pv 0) pa_nil)) (pe_op op_mul pe_int (pe_glob (v := .int 10) rfl g1 ⟨_, rfl⟩)) (nomark _))))) (pss_one (ps_ret pe_bl)) pss_nil)
      (pss_cons (ps_for PassesOwn.never rfl (pi_list (pe_call GT hr rfl A.thr.g A.thr.F.kp A.thr.b .nil pass0 (pa_cons (pv 0) pa_nil)))
        (pg_tup rfl (pgs_cons (pg_name (i := 1) scGok.nd rfl (Or.inl rfl)) (pgs_cons (pg_name (i := 2) scGok.nd rfl (Or.inl rfl)) (pgs_cons (pg_name (i := 3) scGok.nd rfl (Or.inl rfl)) pgs_nil))))
        (pss_one (ps_if (PW.pt (pw_or (pt_cmpR op_gt (pv 1) (pv 2) (nomark _)) (pw_or (pt_cmpR op_gt (pv 2) (pe_glob (v := .int 799) rfl g2 ⟨_, rfl⟩) (nomark _)) (pw_or1 (pt_cmpR op_gt (pv 3) (pe_glob (v := .int 100) rfl g3 ⟨_, rfl⟩) (nomark _)))))) (pss_one (ps_ret pe_bl)) pss_nil)))
      (pss_one (ps_ret pe_bl))), ?_⟩
    refine ⟨_, rfl, a, _, rfl, .inl hS, _, _, rfl, rfl, (by show (0 : Int) < 3; decide), rfl, _, rfl, ?_⟩
    rw [nV_len]
    refine ite2 (fun c => ?_) (fun c => ?_)
    · have c : ¬ l.length % 3 = 0 := fun z => by
        have q : ((l.length : Int) % 3) = 0 := by omega
        have c : (!decide (V.int ((l.length : Int) % 3) = V.int 0)) = true := c
        rw [q] at c
        revert c
        decide
      have e := okL_false (l := l) (fun z => c z.1)
      refine iteT ?_
      have k := k H (Same.refl H)
      rw [e] at k
      exact k
    · have c : l.length % 3 = 0 := by
        have q : ((l.length : Int) % 3) = 0 := by
          apply Decidable.byContradiction
          intro z
          refine c ?_
          rw [Bool.not_eq_true', decide_eq_false_iff_not]
          intro y
          exact z (V.int.inj y)
        omega
      obtain ⟨m, hm⟩ : ∃ m, l.length = 3 * m := ⟨l.length / 3, by omega⟩
      have hgl := grants_len m l hm
      refine ⟨_, rfl, a, _, rfl, .inl hS, _, _, rfl, rfl, .inl ⟨by decide, by decide⟩, _, _, rfl, rfl, _, rfl, ?_⟩
      rw [nV_len]
      refine ite2 (fun d => ?_) (fun d => ?_)
      · have d : 30 < l.length := by have := of_decide_eq_true d; omega
        have e := okL_false (l := l) (fun z => by have := z.2.1; omega)
        have k := k H (Same.refl H)
        rw [e] at k
        exact k
      · have d : l.length ≤ 30 := by
          have := of_decide_eq_false (Bool.eq_false_iff.mpr d)
          omega
        refine ⟨_, rfl, a, l, m, rfl, hS, hm, by omega, fun H1 p as s1 np G => ⟨p, rfl, ⟨_, SqL.of G.lst⟩, ?_⟩⟩
        refine for_list (K := K) (a := p) (xs := as.map V.ref) (fun i σ H' => H' = H1 ∧ (∀ j g, j < i → (grants l)[j]? = some g → okGrant g = true) ∧ ∃ v1 v2 v3 : Option V, σ = [some (.ref a), v1, v2, v3])
          ⟨rfl, fun j g hj => absurd hj (Nat.not_lt_zero _), none, none, none, rfl⟩ (fun i σ H' _ ⟨e, _⟩ => by rw [e]; exact SqL.of G.lst) ?_ ?_
        · rintro i y σ H' hi ⟨rfl, ok, v1, v2, v3, rfl⟩
          obtain ⟨b, hb, rfl⟩ : ∃ b, as[i]? = some b ∧ y = V.ref b := by
            rw [List.getElem?_map] at hi
            cases e : as[i]? with
            | none => rw [e] at hi; cases hi
            | some b => rw [e] at hi; exact ⟨b, rfl, (Option.some.inj hi).symm⟩
          have hil : i < (grants l).length := by rw [← G.len]; exact (List.getElem?_eq_some_iff.mp hb).1
          obtain ⟨g, hg⟩ : ∃ g, (grants l)[i]? = some g := ⟨_, List.getElem?_eq_getElem hil⟩
          have ht := G.tup i b g hb hg
          have kF : ¬ okGrant g = true → Q (.bl false) H' := fun z => by
            have e := okL_false (l := l) (fun y => z (y.2.2 i g hg))
            have k := k H' s1
            rw [e] at k
            exact k
          refine ⟨b, gV g, rfl, SqT.of ht, rfl, _, _, rfl, _, _, rfl, _, _, rfl, rfl, ?_⟩
          refine ⟨_, rfl, _, rfl, _, _, rfl, rfl, _, rfl, ?_⟩
          refine ite2 (fun x => ?_) (fun x => ?_)
          · have x : g.b < g.a := by have := of_decide_eq_true x; omega
            refine iteT ?_
            exact kF (fun z => by have := (okGrant_iff g).mp z; omega)
          · have x : g.a ≤ g.b := by
              have := of_decide_eq_false (Bool.eq_false_iff.mpr x)
              omega
            refine ⟨_, rfl, _, _, rfl, rfl, _, rfl, ?_⟩
            refine ite2 (fun y => ?_) (fun y => ?_)
            · have y : 799 < g.b := by have := of_decide_eq_true y; omega
              refine iteT ?_
              exact kF (fun z => by have := (okGrant_iff g).mp z; omega)
            · have y : g.b < 800 := by
                have := of_decide_eq_false (Bool.eq_false_iff.mpr y)
                omega
              refine ⟨_, rfl, _, _, rfl, rfl, _, rfl, ?_⟩
              refine ite2 (fun u => ?_) (fun u => ?_)
              · have u : 100 < g.n := by have := of_decide_eq_true u; omega
                exact kF (fun z => by have := (okGrant_iff g).mp z; omega)
              · have u : g.n ≤ 100 := by
                  have := of_decide_eq_false (Bool.eq_false_iff.mpr u)
                  omega
                refine ⟨rfl, fun j g' hj hg' => ?_, _, _, _, rfl⟩
                by_cases e : j = i
                · subst e
                  have e2 : g = g' := Option.some.inj (hg.symm.trans hg')
                  subst e2
                  exact (okGrant_iff g).mpr ⟨x, y, u⟩
                · exact ok j g' (by omega) hg'
        · rintro σ H' ⟨rfl, ok, v1, v2, v3, rfl⟩
          have e : okL l = true := (okL_iff l).mpr ⟨c, by omega, fun i g hg => ok i g (by
            have := (List.getElem?_eq_some_iff.mp hg).1
            rw [List.length_map, G.len]
            exact this) hg⟩
          have k := k H' s1
          rw [e] at k
          exact k
end
end Lg

set_option Elab.async false
set_option maxRecDepth 100000
set_option maxHeartbeats 2000000
namespace Lg
open PySem PySem.Spec PyProof.Rows L2
open PySem.W (Codec)
open Kyi2 (Grant grants okTaken okGrant use pick)
/-- an answer as numbers -/
def ansI (a : Kyi1.Ans) : List Int := a.value :: Kyi2Neutral.ints a.nums
theorem ixN_nat {n i : Nat} (h : i < n) : ixN n (i : Int) = some i := by
  unfold ixN
  rw [if_pos (by omega), if_pos (by omega)]
  rfl
theorem nV_set (ns : List Nat) (i n : Nat) : (nV ns).set i (V.int (n : Nat)) = nV (ns.set i n) := by
  unfold nV
  rw [List.map_set]
theorem nV_app (a b : List Nat) : nV (a ++ b) = nV a ++ nV b := List.map_append ..
theorem nV_ints (l : List Nat) : nV l = (l.map fun (n : Nat) => (n : Int)).map V.int := by
  unfold nV
  rw [List.map_map]
  rfl
section
variable {P : Program} {w : World} {K : PySem.W.Frag} {mg : Str → Option Value} {base : Heap}
/-! ### are_as_told -/
def spAre (K : PySem.W.Frag) : Sp := fun vs H Q _ => ∃ (a b : Addr) (l t : List Nat), vs = [.ref a, .ref b] ∧ SqL K H a (nV l) ∧ SqL K H b (nV t) ∧ l.length ≤ 1000 ∧ t.length ≤ 1000 ∧
  ∀ H' : Hp, Same H H' → Q (.bl (Kyi2.good l t)) H'
theorem scAre : FnScope ["l", "t"] ["l", "t"] (defScope sAre) := ⟨rfl, rfl, rfl, by decide +kernel, rfl, by decide +kernel, by decide +kernel⟩
theorem ok_are (A : All K mg) : FnOk P w K mg base CX0 3 A.are.f A.are.fd ["l", "t"] (spAre K) := by
  have GG : FnOk P w K mg base CX0 2 A.gok.f A.gok.fd ["l"] (spGok K) := ok_gok A
  have GH : FnOk P w K mg base CX0 1 A.hok.f A.hok.fd ["t"] (spHok K) := ok_hok A
  refine A.are.F.ok scAre (fun vs H Q E h => ?_) (fun cdv Ar outer s H vs Q E hr h => ?_)
  · obtain ⟨a, b, l, t, rfl, _⟩ := h
    rfl
  · obtain ⟨a, b, l, t, rfl, hL, hT, ll, lt, k⟩ := h
    have hr1 : Room 1 _ := hr.mono (by decide)
    refine ⟨_, pss_one (ps_ret (pe_and (pe_call GG hr rfl A.gok.g A.gok.F.kp A.gok.b .nil pass0 (pa_cons (pv 0) pa_nil)) (pe_one (pe_call GH hr1 rfl A.hok.g A.hok.F.kp A.hok.b .nil pass0 (pa_cons (pv 1) pa_nil))))), ?_⟩
    refine ⟨_, rfl, a, l, rfl, hL, ll, fun H1 s1 => ⟨_, rfl, ?_⟩⟩
    have k := k H1 s1
    rw [good_eq] at k
    cases eG : okL l with
    | false =>
      rw [eG] at k
      exact iteF k
    | true =>
      rw [eG, Bool.true_and] at k
      refine iteT ?_
      exact ⟨_, rfl, b, t, rfl, s1.seq hT, lt, k⟩
/-! ### places_used -/
def spPlu (K : PySem.W.Frag) : Sp := fun vs H Q _ => ∃ (p b : Addr) (as : List Addr) (gs : List Grant) (t : List Nat), vs = [.ref p, .ref b] ∧ GrAt H p as gs ∧ SqL K H b (nV t) ∧ gs.length ≤ 1000 ∧ t.length ≤ 900 ∧
  ∀ (H' : Hp) (q : Addr), Same H H' → H q = none → H' q = some (.lst (nV (plc gs t))) → Q (.ref q) H'
abbrev nPlu : List Str := ["grants", "t", "rest", "places", "half", "place", "first", "last", "many"]
theorem scPlu : FnScope nPlu ["grants", "t"] (defScope sPlu) := ⟨rfl, rfl, rfl, by decide +kernel, rfl, by decide +kernel, by decide +kernel⟩
theorem ok_plu (A : All K mg) : FnOk P w K mg base CX0 3 A.plu.f A.plu.fd ["grants", "t"] (spPlu K) := by
  have GP : FnOk P w K mg base CX0 2 A.pla.f A.pla.fd ["grants", "rest", "half"] spPla := ok_pla A
  refine A.plu.F.ok scPlu (fun vs H Q E h => ?_) (fun cdv Ar outer s H vs Q E hr h => ?_)
  · obtain ⟨p, b, as, gs, t, rfl, _⟩ := h
    rfl
  · obtain ⟨p, b, as, gs, t, rfl, G, hT, hg10, lt, k⟩ := h
    refine ⟨_, pss_cons (ps_setLc (i := 2) (own := [("first", 6), ("last", 7), ("many", 8)]) (g := gTup K 3 (gCons (gName 6) (gCons (gName 7) (gCons (gName 8) gNil)))) (tt := tYes) (te := tVar 8) rfl scPlu.nd rfl rfl (sw_true rfl rfl rfl (by decide +kernel)) (pi_list (pv 0))
          (blkOk_by (own := [("first", 6), ("last", 7), ("many", 8)]) (N := nPlu) (sc := defScope sPlu) (by decide +kernel))
          (fun _ _ _ _ _ => pg_tupK rfl (pgs_cons (pg_name (i := 6) scPlu.nd rfl (Or.inl rfl)) (pgs_cons (pg_name (i := 7) scPlu.nd rfl (Or.inl rfl)) (pgs_cons (pg_name (i := 8) scPlu.nd rfl (Or.inl rfl)) pgs_nil))))
          (fun _ _ _ _ _ => pts_nil) (fun _ _ _ _ _ => pv 8))
      (pss_cons (ps_set (i := 3) scPlu.nd rfl (Or.inl rfl) (pe_lst pa_nil))
      (pss_cons (ps_for PassesOwn.never rfl (pi_list (pv 1)) (pg_name (i := 4) scPlu.nd rfl (Or.inl rfl))
        (pss_cons (ps_set (i := 5) scPlu.nd rfl (Or.inl rfl) (pe_call GP hr rfl A.pla.g A.pla.F.kp A.pla.b .nil pass0 (pa_cons (pv 0) (pa_cons (pv 2) (pa_cons (pv 4) pa_nil)))))
        (pss_cons (ps_if (pt_cmpR op_isN (pv 5) pe_non (nomark _)) (pss_one ps_break) pss_nil)
        (pss_cons (ps_asg (pe_op op_sub (pe_ix ix_list (pv 2) (pv 5) (fun _ _ => rfl)) pe_int) (pg_sub (pv 2) (pv 5) set_list))
        (pss_one (ps_expr (pe_bm PySem.F.plainAttrs_list PySem.F.slot_list_append PySem.F.type_list_append mt_append (pv 3) (pa_cons (pv 5) pa_nil))))))))
      (pss_one (ps_ret (pv 3))))), ?_⟩
    refine ⟨_, rfl, p, rfl, ⟨_, SqL.of G.lst⟩, fun r hr0 => lc_list (K := K) (a := p) (xs := as.map V.ref) (fun i H' => Same H H' ∧ H' r = some (.lst (nV ((gs.take i).map Grant.n)))) ?_ ?_ ?_ ?_⟩
    · exact ⟨fun b o e => by rw [upd_ne (ne_of_none e hr0)]; exact e, upd_same⟩
    · rintro i H' _ ⟨s3, _⟩
      exact SqL.of (s3 _ _ G.lst)
    · rintro i y H' hi ⟨s3, hr3⟩
      obtain ⟨c, hc, rfl⟩ : ∃ b, as[i]? = some b ∧ y = V.ref b := by
        rw [List.getElem?_map] at hi
        cases e : as[i]? with
        | none => rw [e] at hi; cases hi
        | some b => rw [e] at hi; exact ⟨b, rfl, (Option.some.inj hi).symm⟩
      have hil : i < gs.length := by rw [← G.len]; exact (List.getElem?_eq_some_iff.mp hc).1
      obtain ⟨g, hg⟩ : ∃ g, gs[i]? = some g := ⟨_, List.getElem?_eq_getElem hil⟩
      have ht := s3 _ _ (G.tup i c g hc hg)
      refine ⟨c, gV g, rfl, SqT.of ht, rfl, _, _, rfl, _, _, rfl, _, _, rfl, rfl, rfl, ?_⟩
      refine iteT (B := Same H H' ∧ H' r = some (.lst (nV ((gs.take (i + 1)).map Grant.n)))) ?_
      refine ⟨_, rfl, _, hr3, ?_, fun b o e => by rw [upd_ne (ne_of_none e hr0)]; exact s3 b o e, ?_⟩
      · rw [nV_len, List.length_map, List.length_take]
        exact small1000 (by omega)
      · rw [upd_same, take_snoc hg]
        unfold nV
        rw [List.map_append, List.map_append]
        rfl
    · rintro H3 ⟨s3, hr3⟩
      have eT : gs.take (as.map V.ref).length = gs := by
        rw [List.length_map, G.len]
        exact List.take_length
      rw [eT] at hr3
      refine ⟨(by show 0 ≤ sizeLine; decide), fun q hq3 => ?_⟩
      have rq : r ≠ q := ne_of_none hr3 hq3
      have hq0 : H q = none := by
        cases e : H q with
        | none => rfl
        | some o => rw [s3 _ _ e] at hq3; cases hq3
      have rb : ∀ b o, H b = some o → b ≠ r := fun b o e => ne_of_none e hr0
      have qb : ∀ b o, H b = some o → b ≠ q := fun b o e => ne_of_none e hq0
      have s4 : Same H (upd H3 q (.lst [])) := fun b o e => by rw [upd_ne (qb b o e)]; exact s3 b o e
      refine ⟨_, rfl, b, rfl, ⟨_, s4.seq hT⟩, for_list (K := K) (a := b) (xs := nV t) (fun i σ H' => ∃ (ns pre : List Nat) (v4 v5 : Option V), σ = [some (.ref p), some (.ref b), some (.ref r), some (.ref q), v4, v5, none, none, none] ∧ Same H H' ∧
          H' r = some (.lst (nV ns)) ∧ H' q = some (.lst (nV pre)) ∧ ns.length = gs.length ∧ pre.length ≤ i ∧ pre ++ plc (cur gs ns) (t.drop i) = plc gs t) ?_ ?_ ?_ ?_⟩
      · exact ⟨gs.map Grant.n, [], none, none, rfl, s4, by rw [upd_ne rq]; exact hr3, upd_same, List.length_map .., Nat.le_refl _, by rw [cur_self]; rfl⟩
      · rintro i σ H' _ ⟨ns, pre, v4, v5, _, s5, _⟩
        exact s5.seq hT
      · rintro i y σ H' hi ⟨ns, pre, v4, v5, rfl, s5, hr5, hq5, hn, hp, hu⟩
        obtain ⟨h, hh, rfl⟩ := nV_inv hi
        have hil : i < t.length := (List.getElem?_eq_some_iff.mp hh).1
        rw [drop_get hh] at hu
        have G5 := G.same s5
        refine ⟨_, rfl, _, rfl, _, rfl, p, r, h, as, gs, ns, rfl, G5, hr5, hn, hg10, ?_⟩
        cases e : pick (cur gs ns) h with
        | none =>
          rw [plc_none e, List.append_nil] at hu
          refine ⟨_, rfl, rfl, _, rfl, ?_⟩
          refine iteT ?_
          refine ⟨_, rfl, ?_⟩
          exact k H' q s5 hq0 (by rw [← hu]; exact hq5)
        | some j =>
          rw [plc_some e] at hu
          obtain ⟨g, n, hg, hnj, hn0⟩ := pick_cur hn e
          have hj : j < gs.length := (List.getElem?_eq_some_iff.mp hg).1
          rw [less_cur hg hnj] at hu
          refine ⟨_, rfl, rfl, _, rfl, ?_⟩
          refine iteF ?_
          refine ⟨_, rfl, _, rfl, r, _, _, _, rfl, rfl, SqL.of hr5, atz rfl (nV_get hnj), _, _, rfl, rfl, _, rfl, _, rfl, r, _, _, j, rfl, rfl, hr5, ixN_nat (by rw [nV_len, hn]; exact hj), ?_⟩
          refine ⟨_, rfl, .inl ⟨rfl, _, SqL.of (by rw [upd_ne rq.symm]; exact hq5)⟩, _, rfl, q, _, _, rfl, rfl, by rw [upd_ne rq.symm]; exact hq5, by rw [nV_len]; exact small1000 (by omega), ?_⟩
          refine ⟨ns.set j (n - 1), pre ++ [j], _, _, rfl, fun b o e => by rw [upd_ne (qb b o e), upd_ne (rb b o e)]; exact s5 b o e, ?_, ?_, by rw [List.length_set]; exact hn, ?_, by rw [List.append_assoc]; exact hu⟩
          · rw [upd_ne rq, upd_same, ← nV_set, show ((n - 1 : Nat) : Int) = (n : Int) - 1 by omega]
          · rw [upd_same, nV_app]; rfl
          · rw [List.length_append]
            show pre.length + 1 ≤ _
            omega
      · rintro σ H' ⟨ns, pre, v4, v5, rfl, s5, hr5, hq5, hn, hp, hu⟩
        rw [nV_len, List.drop_length] at hu
        have hu : pre ++ [] = plc gs t := hu
        rw [List.append_nil] at hu
        exact ⟨_, rfl, k H' q s5 hq0 (by rw [← hu]; exact hq5)⟩
end
end Lg

set_option Elab.async false
set_option maxRecDepth 100000
set_option maxHeartbeats 2000000
namespace Lg
open PySem PySem.Spec PyProof.Rows L2
open PySem.W (Codec)
open Kyi2 (Grant grants okTaken okGrant use pick)
section
variable {P : Program} {w : World} {K : PySem.W.Frag} {mg : Str → Option Value} {base : Heap}
def spCov (K : PySem.W.Frag) : Sp := fun vs H Q _ => ∃ (a b : Addr) (l t : List Nat), vs = [.ref a, .ref b] ∧ SqL K H a (nV l) ∧ SqL K H b (nV t) ∧ l.length ≤ 36 ∧ t.length ≤ 64 ∧
  ∀ (H' : Hp) (p : Addr), H' p = some (.lst ((ansI (Kyi2.answer (.covered l t))).map V.int)) → Q (.ref p) H'
abbrev nCov : List Str := ["l", "t", "places"]
theorem scCov : FnScope nCov ["l", "t"] (defScope sCov) := ⟨rfl, rfl, rfl, by decide +kernel, rfl, by decide +kernel, by decide +kernel⟩
theorem ans_cov {l t : List Nat} (g : Kyi2.good l t = true) : Kyi2.answer (.covered l t) = (match t[(plc (grants l) t).length]? with
    | none => ⟨1, [0]⟩
    | some h => ⟨0, [h]⟩) := by
  rw [← use_snd]
  exact if_neg (by rw [g]; exact Bool.noConfusion)
theorem ok_cov (A : All K mg) : FnOk P w K mg base CX0 4 A.cov.f A.cov.fd ["l", "t"] (spCov K) := by
  have GA : FnOk P w K mg base CX0 3 A.are.f A.are.fd ["l", "t"] (spAre K) := ok_are A
  have GT : FnOk P w K mg base CX0 1 A.thr.f A.thr.fd ["l"] (spThr K) := ok_thr A
  have GU : FnOk P w K mg base CX0 3 A.plu.f A.plu.fd ["grants", "t"] (spPlu K) := ok_plu A
  refine A.cov.F.ok scCov (fun vs H Q E h => ?_) (fun cdv Ar outer s H vs Q E hr h => ?_)
  · obtain ⟨a, b, l, t, rfl, _⟩ := h
    rfl
  · obtain ⟨a, b, l, t, rfl, hL, hT, ll, lt, k⟩ := h
    have hr1 : Room 1 _ := hr.mono (by decide)
    refine ⟨_, pss_cons (ps_if (pt_not (pt_val (pe_call GA hr rfl A.are.g A.are.F.kp A.are.b .nil pass0 (pa_cons (pv 0) (pa_cons (pv 1) pa_nil))))) (pss_one (ps_ret (pe_lst (pa_cons (pe_un un_neg pe_int) pa_nil)))) pss_nil)
      (pss_cons (ps_set (i := 2) scCov.nd rfl (Or.inl rfl) (pe_call GU hr rfl A.plu.g A.plu.F.kp A.plu.b .nil pass0 (pa_cons (pe_call GT hr1 rfl A.thr.g A.thr.F.kp A.thr.b .nil pass0 (pa_cons (pv 0) pa_nil)) (pa_cons (pv 1) pa_nil))))
      (pss_cons (ps_if (pt_cmpR op_lt (pe_callB call_len_seq (by rfl) A.z_len PySem.boot_len (pa_cons (pv 2) pa_nil)) (pe_callB call_len_seq (by rfl) A.z_len PySem.boot_len (pa_cons (pv 1) pa_nil)) (nomark _))
        (pss_one (ps_ret (pe_lst (pa_cons pe_int (pa_cons (pe_ix ix_list (pv 1) (pe_callB call_len_seq (by rfl) A.z_len PySem.boot_len (pa_cons (pv 2) pa_nil)) (fun _ _ => rfl)) pa_nil))))) pss_nil)
      (pss_one (ps_ret (pe_lst (pa_cons pe_int (pa_cons pe_int pa_nil))))))), ?_⟩
    refine ⟨_, rfl, _, rfl, a, b, l, t, rfl, hL, hT, by omega, by omega, fun H1 s1 => ⟨_, rfl, ?_⟩⟩
    cases eG : Kyi2.good l t with
    | false =>
      refine iteT ?_
      refine ⟨_, rfl, (by show 1 ≤ sizeLine; decide), fun p hp => ?_⟩
      refine k _ p ?_
      have z : Kyi2.answer (.covered l t) = Kyi1.say (-22) := if_pos eG
      rw [z]
      exact upd_same
    | true =>
      refine iteF ?_
      have eG' := eG
      rw [good_eq, Bool.and_eq_true] at eG'
      obtain ⟨h3, hg10, _⟩ := (okL_iff l).mp eG'.1
      obtain ⟨m, hm⟩ : ∃ m, l.length = 3 * m := ⟨l.length / 3, by omega⟩
      refine ⟨_, rfl, a, l, m, rfl, s1.seq hL, hm, by omega, fun H2 p as s2 np G => ?_⟩
      refine ⟨_, rfl, p, b, as, grants l, t, rfl, G, (s1.trans s2).seq hT, by omega, by omega, fun H3 q s3 nq hq => ?_⟩
      have hT3 := ((s1.trans s2).trans s3).seq hT
      have hpl := plc_len t (grants l)
      refine ⟨_, rfl, q, _, rfl, .inl (SqL.of hq), _, rfl, b, _, rfl, .inl hT3, _, _, rfl, rfl, _, rfl, ?_⟩
      rw [nV_len, nV_len]
      refine ite2 (fun c => ?_) (fun c => ?_)
      · have c : (plc (grants l) t).length < t.length := by have := of_decide_eq_true c; omega
        refine ⟨_, rfl, _, rfl, q, _, rfl, .inl (SqL.of hq), b, _, _, _, rfl, rfl, hT3, atz (by rw [nV_len]) (nV_get (getD_some c)), (by show 2 ≤ sizeLine; decide), fun z hz => ?_⟩
        refine k _ z ?_
        rw [ans_cov eG, getD_some c]
        exact upd_same
      · have c : t.length ≤ (plc (grants l) t).length := by
          have := of_decide_eq_false (Bool.eq_false_iff.mpr c)
          omega
        refine ⟨(by show 2 ≤ sizeLine; decide), fun z hz => ?_⟩
        refine k _ z ?_
        rw [ans_cov eG, List.getElem?_eq_none c]
        exact upd_same
end
end Lg

set_option Elab.async false
set_option maxRecDepth 100000
set_option maxHeartbeats 2000000
namespace Lg
open PySem PySem.Spec PyProof.Rows L2
open PySem.W (Codec)
theorem nats_len (l : List Int) : (Kyi2Neutral.natsOf l).length = l.length := List.length_map ..
theorem nV_nats {l : List Int} {hi : Int} (h : l.all (Codec.inInt 0 hi) = true) : nV (Kyi2Neutral.natsOf l) = l.map V.int := by
  have e := ints_nats (l := l) fun x hx => (Codec.inInt_iff.mp (List.all_eq_true.mp h x hx)).1
  unfold nV
  rw [show (fun (n : Nat) => V.int (n : Int)) = V.int ∘ (fun (n : Nat) => (n : Int)) from rfl, ← List.map_map, e]
theorem fun_at {K : PySem.W.Frag} {h : Heap} {mg : Str → Option Value} {x : Str} {st : Stmt} {f : Addr} {oc : Value} {od an : Option Addr} {osl : Array (Option Value)} {kV doc pm cdv ct : Value} (X : K.In h) (G : h.Ns mainGlobals mg) (a : PySem.W.nsIn K mainGlobals x = some (some (.ref f)))
    (l : K.lookup f = some ⟨oc, od, .func (PySem.W.fnOf x x (defArgs st) (defBody st) (defScope st) .none kV doc pm an cdv ct), osl⟩) (c : PySem.W.codeIn K cdv x = true) (k : PySem.W.keepIn K (.ref f) = true) :
    mg x = some (.ref f) ∧ Fun K x x st f (PySem.W.fnOf x x (defArgs st) (defBody st) (defScope st) .none kV doc pm an cdv ct) := ⟨PySem.W.mg_of X G a, fun_mk l c k⟩
theorem all_mk {P : Program} {w : World} {K : PySem.W.Frag} {h : Heap} {mg : Str → Option Value} {fa f1 f2 f3 f4 f5 f6 f7 f8 : Addr} (X : K.In h) (G : h.Ns mainGlobals mg) (hfa : mg "covered" = some (.ref fa))
    {od1 an1 od2 an2 od3 an3 od4 an4 od5 an5 od6 an6 od7 an7 od8 an8 : Option Addr} {sl1 sl2 sl3 sl4 sl5 sl6 sl7 sl8 : Array (Option Value)} {oc1 kV1 dc1 pm1 cd1 ct1 oc2 kV2 dc2 pm2 cd2 ct2 oc3 kV3 dc3 pm3 cd3 ct3 oc4 kV4 dc4 pm4 cd4 ct4 oc5 kV5 dc5 pm5 cd5 ct5 oc6 kV6 dc6 pm6 cd6 ct6 oc7 kV7 dc7 pm7 cd7 ct7 oc8 kV8 dc8 pm8 cd8 ct8 : Value} {t1 t2 t3 t4 : Tok}
    (a1 : PySem.W.nsIn K mainGlobals "covered" = some (some (.ref f1))) (l1 : K.lookup f1 = some ⟨oc1, od1, .func (PySem.W.fnOf "covered" "covered" (defArgs sCov) (defBody sCov) (defScope sCov) .none kV1 dc1 pm1 an1 cd1 ct1), sl1⟩) (c1 : PySem.W.codeIn K cd1 "covered" = true) (k1 : PySem.W.keepIn K (.ref f1) = true)
    (a2 : PySem.W.nsIn K mainGlobals "are_as_told" = some (some (.ref f2))) (l2 : K.lookup f2 = some ⟨oc2, od2, .func (PySem.W.fnOf "are_as_told" "are_as_told" (defArgs sAre) (defBody sAre) (defScope sAre) .none kV2 dc2 pm2 an2 cd2 ct2), sl2⟩) (c2 : PySem.W.codeIn K cd2 "are_as_told" = true) (k2 : PySem.W.keepIn K (.ref f2) = true)
    (a3 : PySem.W.nsIn K mainGlobals "grants_are_as_told" = some (some (.ref f3))) (l3 : K.lookup f3 = some ⟨oc3, od3, .func (PySem.W.fnOf "grants_are_as_told" "grants_are_as_told" (defArgs sGok) (defBody sGok) (defScope sGok) .none kV3 dc3 pm3 an3 cd3 ct3), sl3⟩) (c3 : PySem.W.codeIn K cd3 "grants_are_as_told" = true) (k3 : PySem.W.keepIn K (.ref f3) = true)
    (a4 : PySem.W.nsIn K mainGlobals "halves_are_as_told" = some (some (.ref f4))) (l4 : K.lookup f4 = some ⟨oc4, od4, .func (PySem.W.fnOf "halves_are_as_told" "halves_are_as_told" (defArgs sHok) (defBody sHok) (defScope sHok) .none kV4 dc4 pm4 an4 cd4 ct4), sl4⟩) (c4 : PySem.W.codeIn K cd4 "halves_are_as_told" = true) (k4 : PySem.W.keepIn K (.ref f4) = true)
    (a5 : PySem.W.nsIn K mainGlobals "threes" = some (some (.ref f5))) (l5 : K.lookup f5 = some ⟨oc5, od5, .func (PySem.W.fnOf "threes" "threes" (defArgs sThr) (defBody sThr) (defScope sThr) .none kV5 dc5 pm5 an5 cd5 ct5), sl5⟩) (c5 : PySem.W.codeIn K cd5 "threes" = true) (k5 : PySem.W.keepIn K (.ref f5) = true)
    (a6 : PySem.W.nsIn K mainGlobals "places_used" = some (some (.ref f6))) (l6 : K.lookup f6 = some ⟨oc6, od6, .func (PySem.W.fnOf "places_used" "places_used" (defArgs sPlu) (defBody sPlu) (defScope sPlu) .none kV6 dc6 pm6 an6 cd6 ct6), sl6⟩) (c6 : PySem.W.codeIn K cd6 "places_used" = true) (k6 : PySem.W.keepIn K (.ref f6) = true)
    (a7 : PySem.W.nsIn K mainGlobals "place_to_use" = some (some (.ref f7))) (l7 : K.lookup f7 = some ⟨oc7, od7, .func (PySem.W.fnOf "place_to_use" "place_to_use" (defArgs sPla) (defBody sPla) (defScope sPla) .none kV7 dc7 pm7 an7 cd7 ct7), sl7⟩) (c7 : PySem.W.codeIn K cd7 "place_to_use" = true) (k7 : PySem.W.keepIn K (.ref f7) = true)
    (a8 : PySem.W.nsIn K mainGlobals "may_be_taken" = some (some (.ref f8))) (l8 : K.lookup f8 = some ⟨oc8, od8, .func (PySem.W.fnOf "may_be_taken" "may_be_taken" (defArgs sMay) (defBody sMay) (defScope sMay) .none kV8 dc8 pm8 an8 cd8 ct8), sl8⟩) (c8 : PySem.W.codeIn K cd8 "may_be_taken" = true) (k8 : PySem.W.keepIn K (.ref f8) = true)
    (q1 : PySem.W.nsIn K mainGlobals "LAST_HALF" = some (some (.int 799 t1)))
    (q2 : PySem.W.nsIn K mainGlobals "MOST_GRANTS" = some (some (.int 10 t2)))
    (q3 : PySem.W.nsIn K mainGlobals "MOST_GRANTED" = some (some (.int 100 t3)))
    (q4 : PySem.W.nsIn K mainGlobals "MOST_TAKEN" = some (some (.int 60 t4)))
    (z1 : PySem.W.nsIn K mainGlobals "range" = some none) (z2 : PySem.W.nsIn K mainGlobals "len" = some none) :
    ∃ fd : FuncData, (∀ (s : Shared) (us : List Value), us.length = (["l", "t"] : List Str).length → BindsTo s fd ⟨us, []⟩ ((["l", "t"] : List Str).zip us)) ∧ ∀ base : Heap, K.In base → base.Ns mainGlobals mg → FnOk P w K mg base CX0 4 fa fd ["l", "t"] (spCov K) := by
  have e := hfa.symm.trans (PySem.W.mg_of X G a1)
  cases e
  obtain ⟨g1, F1⟩ := fun_at (st := sCov) X G a1 l1 c1 k1
  have b1 := F1.binds (ps := ["l", "t"]) fun _ _ _ _ _ _ us hl => match us, hl with | [_, _], _ => rfl
  obtain ⟨g2, F2⟩ := fun_at (st := sAre) X G a2 l2 c2 k2
  have b2 := F2.binds (ps := ["l", "t"]) fun _ _ _ _ _ _ us hl => match us, hl with | [_, _], _ => rfl
  obtain ⟨g3, F3⟩ := fun_at (st := sGok) X G a3 l3 c3 k3
  have b3 := F3.binds (ps := ["l"]) fun _ _ _ _ _ _ us hl => match us, hl with | [_], _ => rfl
  obtain ⟨g4, F4⟩ := fun_at (st := sHok) X G a4 l4 c4 k4
  have b4 := F4.binds (ps := ["t"]) fun _ _ _ _ _ _ us hl => match us, hl with | [_], _ => rfl
  obtain ⟨g5, F5⟩ := fun_at (st := sThr) X G a5 l5 c5 k5
  have b5 := F5.binds (ps := ["l"]) fun _ _ _ _ _ _ us hl => match us, hl with | [_], _ => rfl
  obtain ⟨g6, F6⟩ := fun_at (st := sPlu) X G a6 l6 c6 k6
  have b6 := F6.binds (ps := ["grants", "t"]) fun _ _ _ _ _ _ us hl => match us, hl with | [_, _], _ => rfl
  obtain ⟨g7, F7⟩ := fun_at (st := sPla) X G a7 l7 c7 k7
  have b7 := F7.binds (ps := ["grants", "rest", "half"]) fun _ _ _ _ _ _ us hl => match us, hl with | [_, _, _], _ => rfl
  obtain ⟨g8, F8⟩ := fun_at (st := sMay) X G a8 l8 c8 k8
  have b8 := F8.binds (ps := ["grant", "half"]) fun _ _ _ _ _ _ us hl => match us, hl with | [_, _], _ => rfl
  let A : All K mg := ⟨PySem.W.mg_none_of X G z1, PySem.W.mg_none_of X G z2, ⟨_, PySem.W.mg_of X G q1⟩, ⟨_, PySem.W.mg_of X G q2⟩, ⟨_, PySem.W.mg_of X G q3⟩, ⟨_, PySem.W.mg_of X G q4⟩, ⟨_, _, g1, F1, b1⟩, ⟨_, _, g2, F2, b2⟩, ⟨_, _, g3, F3, b3⟩, ⟨_, _, g4, F4, b4⟩, ⟨_, _, g5, F5, b5⟩, ⟨_, _, g6, F6, b6⟩, ⟨_, _, g7, F7, b7⟩, ⟨_, _, g8, F8, b8⟩⟩
  exact ⟨_, fun s us hu => match us, hu with | [_, _], _ => .of_eq rfl, fun base _ _ => ok_cov A⟩
end Lg
open PySem PySem.W PyProof.Rows
set_option maxRecDepth 100000 in
set_option maxHeartbeats 0 in
theorem PySem.Challenge.cw_lapsegrants_s01_covered_holds : PySem.Challenge.rw_lapsegrants_s01_covered.Holds := by
  w_on; k_headS; (case hw => exact ⟨[.list [], .list []], by decide +kernel, by decide +kernel⟩)
  k_fillS
  refine L2.walk_specK (r := PySem.Challenge.rw_lapsegrants_s01_covered) (k := 4) (CX := L2.CX0) (ps := ["l", "t"]) (sp := Lg.spCov) (by decide +kernel) rfl rfl ⟨rfl, by decide, by decide⟩ (fun w h Y => PySem.W.kIn_of Y) ?F ?S (fun _ _ _ _ z => z)
  case F =>
    intro w mg fa h Y KX G hmg
    refine' Lg.all_mk KX G hmg ?a1 ?l1 ?c1 ?k1 ?a2 ?l2 ?c2 ?k2 ?a3 ?l3 ?c3 ?k3 ?a4 ?l4 ?c4 ?k4 ?a5 ?l5 ?c5 ?k5 ?a6 ?l6 ?c6 ?k6 ?a7 ?l7 ?c7 ?k7 ?a8 ?l8 ?c8 ?k8 ?q1 ?q2 ?q3 ?q4 ?z1 ?z2
    (case a1 => k_is); (case l1 => k_is); (case c1 => k_is); (case k1 => k_is); (case a2 => k_is); (case l2 => k_is); (case c2 => k_is); (case k2 => k_is); (case a3 => k_is); (case l3 => k_is); (case c3 => k_is); (case k3 => k_is); (case a4 => k_is); (case l4 => k_is); (case c4 => k_is); (case k4 => k_is); (case a5 => k_is); (case l5 => k_is); (case c5 => k_is); (case k5 => k_is); (case a6 => k_is); (case l6 => k_is); (case c6 => k_is); (case k6 => k_is); (case a7 => k_is); (case l7 => k_is); (case c7 => k_is); (case k7 => k_is); (case a8 => k_is); (case l8 => k_is); (case c8 => k_is); (case k8 => k_is); (case q1 => k_is); (case q2 => k_is); (case q3 => k_is); (case q4 => k_is); (case z1 => k_is); (case z2 => k_is)
  case S =>
    intro K H xs a hO hwi hask hx
    cases hx with
    | cons h1 hx =>
      cases hx with
      | cons h2 hx =>
        cases hx
        cases h1 with
        | lst hs1 ha1 =>
          cases h2 with
          | lst hs2 ha2 =>
            have e1 := L2.ints_dw a.1 _ ha1
            have e2 := L2.ints_dw a.2.1 _ ha2
            subst e1 e2
            have q : ((Codec.inLen 0 36 a.1 && a.1.all (Codec.inInt 0 4294967295)) && ((Codec.inLen 0 64 a.2.1 && a.2.1.all (Codec.inInt 0 4294967295)) && true)) = true := hwi
            rw [Bool.and_eq_true, Bool.and_eq_true, Bool.and_eq_true, Bool.and_eq_true] at q
            obtain ⟨⟨p1, q1⟩, ⟨p2, q2⟩, _⟩ := q
            refine ⟨_, _, Kyi2Neutral.natsOf a.1, Kyi2Neutral.natsOf a.2.1, rfl, ?_, ?_, ?_, ?_, fun H' p hp => ?_⟩
            · rw [Lg.nV_nats q1]; exact hs1
            · rw [Lg.nV_nats q2]; exact hs2
            · rw [Lg.nats_len]; exact (Codec.inNat_iff.mp p1).2
            · rw [Lg.nats_len]; exact (Codec.inNat_iff.mp p2).2
            · exact .lst (L2.SqL.of hp) (L2.dw_ints _)
#print axioms PySem.Challenge.cw_lapsegrants_s01_covered_holds

