import PyProof.Rows.All
import Wide.All
import OpenK.AllK
import Wide.FinOn
import HandS.ForMost
import HandS.Defaults
import HandS.MakeKwOnly
import HandS.IsInst
import HandS.Wide
import HandS.Style
import HandS.Zip
import HandS.Codes
import HandS.OwnEq
import HandS.TupAny
import HandS.More
import HandS.Exc
import HandS.TryMany
import HandS.ExcInit
import HandS.ExcField
import HandS.ExcIs
import HandS.WordsExc
import PyProof.InstNe
import PyProof.NeKinds
import HandS.TupMul
import HandS.More
import PySem.Challenge.RW_wholedrops_k22_trees_by_a_model
set_option Elab.async false
set_option linter.all false
set_option maxRecDepth 100000
set_option maxHeartbeats 4000000
namespace Kp
/-! ### an if whose test is a Bool -/
theorem ifT {c : Bool} {A B : Prop} (hc : c = true) (h : A) : if c = true then A else B := by
  rw [if_pos hc]
  exact h
theorem ifF {c : Bool} {A B : Prop} (hc : c = false) (h : B) : if c = true then A else B := by
  rw [hc, if_neg Bool.false_ne_true]
  exact h
theorem ifD {P A B : Prop} [Decidable P] (h1 : P → A) (h2 : ¬ P → B) : if decide P = true then A else B := by
  by_cases h : P
  · exact ifT (decide_eq_true h) (h1 h)
  · exact ifF (decide_eq_false h) (h2 h)
theorem ifN {P A B : Prop} [Decidable P] (h1 : P → B) (h2 : ¬ P → A) : if (!decide P) = true then A else B := by
  by_cases h : P
  · exact ifF (by rw [decide_eq_true h]; rfl) (h1 h)
  · exact ifT (by rw [decide_eq_false h]; rfl) (h2 h)
/-! ### lists of ints -/
def at0 (l : List Int) (i : Nat) : Int := l.getD i 0
theorem at0_get {l : List Int} {i : Nat} (h : i < l.length) : l[i]? = some (at0 l i) := by
  unfold at0
  rw [List.getD_eq_getElem?_getD, List.getElem?_eq_getElem h]
  rfl
theorem at0_of {l : List Int} {i : Nat} {v : Int} (h : l[i]? = some v) : at0 l i = v := by
  unfold at0
  rw [List.getD_eq_getElem?_getD, h]
  rfl
theorem at0_set {l : List Int} {i j : Nat} {v : Int} (h : i < l.length) : at0 (l.set i v) j = if i = j then v else at0 l j := by
  unfold at0
  rw [List.getD_eq_getElem?_getD, List.getD_eq_getElem?_getD, List.getElem?_set]
  by_cases e : i = j
  · subst e
    simp [h]
  · simp [e]
theorem at0_map {l : List Int} {f : Int → Int} {i : Nat} (h : i < l.length) : at0 (l.map f) i = f (at0 l i) := by
  have := at0_get h
  exact at0_of (by rw [List.getElem?_map, this]; rfl)
theorem ext0 {l m : List Int} (h : l.length = m.length) (e : ∀ i, i < l.length → at0 l i = at0 m i) : l = m := by
  apply List.ext_getElem? 
  intro i
  by_cases hi : i < l.length
  · rw [at0_get hi, at0_get (h ▸ hi), e i hi]
  · rw [List.getElem?_eq_none (by omega), List.getElem?_eq_none (by omega)]
/-! ### the deeds -/
inductive D where
  | pour (a b : Nat) | put (a : Nat) (k : Int) | draw (a : Nat) (k : Int) | change (a b : Nat)
  deriving DecidableEq
/-- what a deed must be for jars of these sizes -/
def D.ok (caps : List Int) : D → Prop
  | .pour a b => a < caps.length ∧ b < caps.length ∧ a ≠ b
  | .put a k => a < caps.length ∧ 1 ≤ k ∧ k ≤ 1000000000000
  | .draw a k => a < caps.length ∧ 1 ≤ k ∧ k ≤ 1000000000000
  | .change a b => a < caps.length ∧ b < caps.length ∧ a ≠ b ∧ at0 caps a = at0 caps b
/-- one deed, as behind_deed reckons it -/
def D.act (caps : List Int) (p : Int) (st : List Int) : D → List Int
  | .pour a b =>
    let m := if at0 caps b * p - at0 st b < at0 st a then at0 caps b * p - at0 st b else at0 st a
    (st.set a (at0 st a - m)).set b (at0 st b + m)
  | .put a k => st.set a (if at0 caps a * p < at0 st a + k * p then at0 caps a * p else at0 st a + k * p)
  | .draw a k => st.set a (if 0 > at0 st a - k * p then 0 else at0 st a - k * p)
  | .change a b => (st.set a (at0 st b)).set b (at0 st a)
def run (caps : List Int) (p : Int) (ds : List D) (st : List Int) : List Int := ds.foldl (D.act caps p) st
def runs (caps : List Int) (p : Int) (ds : List D) : Nat → List Int → List Int
  | 0, st => st
  | n + 1, st => run caps p ds (runs caps p ds n st)
/-- a start that can be -/
structure Stand (caps : List Int) (p : Int) (st : List Int) : Prop where
  len : st.length = caps.length
  lo : ∀ i, i < caps.length → 0 ≤ at0 st i
  hi : ∀ i, i < caps.length → at0 st i ≤ at0 caps i * p
structure Caps (caps : List Int) : Prop where
  l1 : 1 ≤ caps.length
  l6 : caps.length ≤ 6
  lo : ∀ i, i < caps.length → 1 ≤ at0 caps i
  hi : ∀ i, i < caps.length → at0 caps i ≤ 1000000000000
theorem act_len {caps st : List Int} {p : Int} {d : D} : (d.act caps p st).length = st.length := by
  cases d <;> simp [D.act]
theorem act_stand {caps st : List Int} {p : Int} {d : D} (hp : 1 ≤ p) (h : Stand caps p st) (hd : d.ok caps) : Stand caps p (d.act caps p st) := by
  have hl := h.len
  refine ⟨by rw [act_len, hl], ?_, ?_⟩
  all_goals
    intro i hi
    have z0 := h.lo i hi
    have z1 := h.hi i hi
    cases d with
    | pour a b =>
      obtain ⟨ha, hb, hab⟩ := hd
      have a0 := h.lo a ha
      have a1 := h.hi a ha
      have b0 := h.lo b hb
      have b1 := h.hi b hb
      simp only [D.act]
      rw [at0_set (by rw [List.length_set]; omega), at0_set (by omega)]
      by_cases e1 : b = i
      · subst e1
        rw [if_pos rfl]
        split <;> omega
      · rw [if_neg e1]
        by_cases e2 : a = i
        · subst e2
          rw [if_pos rfl]
          split <;> omega
        · rw [if_neg e2]
          omega
    | put a k =>
      obtain ⟨ha, hk, _⟩ := hd
      have a0 := h.lo a ha
      have a1 := h.hi a ha
      have kp : 0 ≤ k * p := Int.mul_nonneg (by omega) (by omega)
      simp only [D.act]
      rw [at0_set (by omega)]
      by_cases e1 : a = i
      · subst e1
        rw [if_pos rfl]
        split <;> omega
      · rw [if_neg e1]
        omega
    | draw a k =>
      obtain ⟨ha, hk, _⟩ := hd
      have a0 := h.lo a ha
      have a1 := h.hi a ha
      have kp : 0 ≤ k * p := Int.mul_nonneg (by omega) (by omega)
      simp only [D.act]
      rw [at0_set (by omega)]
      by_cases e1 : a = i
      · subst e1
        rw [if_pos rfl]
        split <;> omega
      · rw [if_neg e1]
        omega
    | change a b =>
      obtain ⟨ha, hb, hab, hs⟩ := hd
      have a0 := h.lo a ha
      have a1 := h.hi a ha
      have b0 := h.lo b hb
      have b1 := h.hi b hb
      simp only [D.act]
      rw [at0_set (by rw [List.length_set]; omega), at0_set (by omega)]
      by_cases e1 : b = i
      · subst e1
        rw [if_pos rfl]
        rw [hs] at a1
        omega
      · rw [if_neg e1]
        by_cases e2 : a = i
        · subst e2
          rw [if_pos rfl]
          rw [← hs] at b1
          omega
        · rw [if_neg e2]
          omega
theorem run_len {caps : List Int} {p : Int} : ∀ {ds : List D} {st : List Int}, (run caps p ds st).length = st.length
  | [], _ => rfl
  | d :: ds, st => (run_len (ds := ds) (st := d.act caps p st)).trans act_len
theorem run_stand {caps : List Int} {p : Int} (hp : 1 ≤ p) : ∀ {ds : List D} {st : List Int}, Stand caps p st → (∀ d ∈ ds, d.ok caps) → Stand caps p (run caps p ds st)
  | [], _, h, _ => h
  | d :: ds, st, h, hd => run_stand (ds := ds) hp (act_stand hp h (hd d (List.mem_cons_self ..))) fun e he => hd e (List.mem_cons_of_mem _ he)
theorem runs_stand {caps : List Int} {p : Int} (hp : 1 ≤ p) {ds : List D} (hd : ∀ d ∈ ds, d.ok caps) : ∀ {n : Nat} {st : List Int}, Stand caps p st → Stand caps p (runs caps p ds n st)
  | 0, _, h => h
  | n + 1, _, h => run_stand hp (runs_stand hp hd (n := n) h) hd
theorem run_app {caps : List Int} {p : Int} {ds es : List D} {st : List Int} : run caps p (ds ++ es) st = run caps p es (run caps p ds st) := List.foldl_append ..
theorem runs_add {caps : List Int} {p : Int} {ds : List D} : ∀ (m n : Nat) (st : List Int), runs caps p ds m (runs caps p ds n st) = runs caps p ds (n + m) st
  | 0, _, _ => rfl
  | m + 1, n, st => congrArg (run caps p ds) (runs_add m n st)
theorem runs_nil {caps : List Int} {p : Int} : ∀ (n : Nat) (st : List Int), runs caps p [] n st = st
  | 0, _ => rfl
  | n + 1, st => runs_nil n st
theorem run_snoc {caps : List Int} {p : Int} {ds : List D} {d : D} {i : Nat} {st : List Int} (h : ds[i]? = some d) : run caps p (ds.take (i + 1)) st = d.act caps p (run caps p (ds.take i) st) := by
  rw [List.take_add_one, h, run_app]
  rfl
end Kp

namespace Kp
theorem at0_app {l : List Int} {z : Int} {i : Nat} : at0 (l ++ [z]) i = if i < l.length then at0 l i else if i = l.length then z else 0 := by
  unfold at0
  rw [List.getD_eq_getElem?_getD, List.getD_eq_getElem?_getD]
  by_cases h : i < l.length
  · rw [if_pos h, List.getElem?_append_left h]
  · rw [if_neg h, List.getElem?_append_right (by omega)]
    by_cases e : i = l.length
    · subst e
      simp
    · rw [if_neg e, List.getElem?_eq_none (by simp; omega)]
      rfl
/-- sizes that are none too small, none too big -/
def Mid (caps : List Int) : Prop := ∀ c ∈ caps, 1 ≤ c ∧ c ≤ 1000000000000
theorem Mid.nil : Mid [] := fun c h => by cases h
theorem Mid.app {caps : List Int} {z : Int} (h : Mid caps) (h1 : 1 ≤ z) (h2 : z ≤ 1000000000000) : Mid (caps ++ [z]) := fun c hc => by
  rcases List.mem_append.mp hc with q | q
  · exact h c q
  · have : c = z := by simpa using q
    subst this
    exact ⟨h1, h2⟩
theorem at0_mem {l : List Int} {i : Nat} (h : i < l.length) : at0 l i ∈ l := List.mem_of_getElem? (at0_get h)
theorem Mid.set {caps : List Int} {i j : Nat} (h : Mid caps) (hj : j < caps.length) : Mid (caps.set i (at0 caps j)) := fun c hc => by
  rcases List.mem_or_eq_of_mem_set hc with q | q
  · exact h c q
  · rw [q]
    exact h _ (at0_mem hj)
theorem Mid.caps {caps : List Int} (h : Mid caps) (h1 : 1 ≤ caps.length) (h6 : caps.length ≤ 6) : Caps caps :=
  ⟨h1, h6, fun i hi => (h _ (at0_mem hi)).1, fun i hi => (h _ (at0_mem hi)).2⟩
/-- starts as far as they are made -/
structure Part (caps : List Int) (p : Int) (st : List Int) : Prop where
  lo : ∀ i, i < st.length → 0 ≤ at0 st i
  hi : ∀ i, i < st.length → at0 st i ≤ at0 caps i * p
theorem Part.nil {caps : List Int} {p : Int} : Part caps p [] := ⟨fun i h => absurd h (Nat.not_lt_zero _), fun i h => absurd h (Nat.not_lt_zero _)⟩
theorem Part.app {caps st : List Int} {p z : Int} (h : Part caps p st) (h0 : 0 ≤ z) (h1 : z ≤ at0 caps st.length * p) : Part caps p (st ++ [z]) := by
  refine ⟨fun i hi => ?_, fun i hi => ?_⟩
  all_goals
    rw [List.length_append] at hi
    rw [at0_app]
    by_cases q : i < st.length
    · rw [if_pos q]
      first | exact h.lo i q | exact h.hi i q
    · have e : i = st.length := by simp at hi; omega
      subst e
      rw [if_neg q, if_pos rfl]
      first | exact h0 | exact h1
theorem Part.stand {caps st : List Int} {p : Int} (h : Part caps p st) (hl : st.length = caps.length) : Stand caps p st :=
  ⟨hl, fun i hi => h.lo i (by omega), fun i hi => h.hi i (by omega)⟩
/-- the words of the deeds -/
inductive Wd where
  | pour | put | draw | change
  deriving DecidableEq
def sixW : List Wd := [.pour, .pour, .pour, .put, .draw, .change]
theorem unit_ok {n : Nat} (h : n < 6) : 1 ≤ at0 [1, 1, 1, 7, 1000000, 100000000000] n ∧ at0 [1, 1, 1, 7, 1000000, 100000000000] n ≤ 100000000000 := by
  have : ∀ n : Fin 6, 1 ≤ at0 [1, 1, 1, 7, 1000000, 100000000000] n.1 ∧ at0 [1, 1, 1, 7, 1000000, 100000000000] n.1 ≤ 100000000000 := by decide
  exact this ⟨n, h⟩
theorem pick4 {a b c d lo hi : Int} {n : Nat} (h : n < 4) (ha : lo ≤ a ∧ a ≤ hi) (hb : lo ≤ b ∧ b ≤ hi) (hc : lo ≤ c ∧ c ≤ hi) (hd : lo ≤ d ∧ d ≤ hi) : lo ≤ at0 [a, b, c, d] n ∧ at0 [a, b, c, d] n ≤ hi := by
  match n, h with
  | 0, _ => exact ha
  | 1, _ => exact hb
  | 2, _ => exact hc
  | 3, _ => exact hd
theorem pick5 {a b c d e lo hi : Int} {n : Nat} (h : n < 5) (ha : lo ≤ a ∧ a ≤ hi) (hb : lo ≤ b ∧ b ≤ hi) (hc : lo ≤ c ∧ c ≤ hi) (hd : lo ≤ d ∧ d ≤ hi) (he : lo ≤ e ∧ e ≤ hi) : lo ≤ at0 [a, b, c, d, e] n ∧ at0 [a, b, c, d, e] n ≤ hi := by
  match n, h with
  | 0, _ => exact ha
  | 1, _ => exact hb
  | 2, _ => exact hc
  | 3, _ => exact hd
  | 4, _ => exact he
end Kp

namespace Kp
def MidN (b : Int) (caps : List Int) : Prop := ∀ c ∈ caps, 1 ≤ c ∧ c ≤ b
theorem MidN.nil {b : Int} : MidN b [] := fun c h => by cases h
theorem MidN.app {b : Int} {caps : List Int} {z : Int} (h : MidN b caps) (h1 : 1 ≤ z) (h2 : z ≤ b) : MidN b (caps ++ [z]) := fun c hc => by
  rcases List.mem_append.mp hc with q | q
  · exact h c q
  · have : c = z := by simpa using q
    subst this
    exact ⟨h1, h2⟩
theorem MidN.set {b : Int} {caps : List Int} {i j : Nat} (h : MidN b caps) (hj : j < caps.length) : MidN b (caps.set i (at0 caps j)) := fun c hc => by
  rcases List.mem_or_eq_of_mem_set hc with q | q
  · exact h c q
  · rw [q]
    exact h _ (at0_mem hj)
theorem MidN.caps {b : Int} {caps : List Int} (h : MidN b caps) (hb : b ≤ 1000000000000) (h1 : 1 ≤ caps.length) (h6 : caps.length ≤ 6) : Caps caps :=
  ⟨h1, h6, fun i hi => (h _ (at0_mem hi)).1, fun i hi => Int.le_trans (h _ (at0_mem hi)).2 hb⟩
/-- the pour as the law's own walk reckons it -/
def stepL (caps : List Int) (p : Int) (st : List Int) : D → List Int
  | .pour a b =>
    let x := if at0 caps b * p < at0 st a + at0 st b then at0 caps b * p else at0 st a + at0 st b
    (st.set b x).set a (at0 st a + at0 st b - x)
  | .put a k => st.set a (if at0 caps a * p < at0 st a + k * p then at0 caps a * p else at0 st a + k * p)
  | .draw a k => st.set a (if 0 > at0 st a - k * p then 0 else at0 st a - k * p)
  | .change a b => (st.set a (at0 st b)).set b (at0 st a)
theorem stepL_act {caps st : List Int} {p : Int} {d : D} (hl : st.length = caps.length) (ok : d.ok caps) : stepL caps p st d = d.act caps p st := by
  cases d with
  | pour a b =>
    obtain ⟨ha, hb, hab⟩ := ok
    simp only [stepL, D.act]
    apply ext0
    · simp
    · intro i hi
      rw [at0_set (by rw [List.length_set]; omega), at0_set (by omega), at0_set (by rw [List.length_set]; omega), at0_set (by omega)]
      by_cases e1 : a = i
      · by_cases e2 : b = i
        · exact absurd (e1.trans e2.symm) hab
        · rw [if_pos e1, if_neg e2, if_pos e1]
          split <;> split <;> omega
      · by_cases e2 : b = i
        · rw [if_neg e1, if_pos e2, if_pos e2]
          split <;> split <;> omega
        · rw [if_neg e1, if_neg e2, if_neg e2, if_neg e1]
  | put a k => rfl
  | draw a k => rfl
  | change a b => rfl
theorem runs_len {caps : List Int} {p : Int} {ds : List D} : ∀ {n : Nat} {st : List Int}, (runs caps p ds n st).length = st.length
  | 0, _ => rfl
  | n + 1, st => run_len.trans (runs_len (n := n))
end Kp

namespace Kp
theorem sum_set : ∀ {l : List Int} {i : Nat} {v : Int}, i < l.length → (l.set i v).sum = l.sum - at0 l i + v
  | [], i, v, h => absurd h (Nat.not_lt_zero _)
  | x :: l, 0, v, _ => by
    show v + l.sum = x + l.sum - x + v
    omega
  | x :: l, i + 1, v, h => by
    have ih := sum_set (l := l) (i := i) (v := v) (by simpa using h)
    show x + (l.set i v).sum = x + l.sum - at0 l i + v
    rw [ih]
    omega
def D.isPC : D → Bool
  | .pour _ _ => true
  | .change _ _ => true
  | _ => false
def D.putK : D → Option Int
  | .put _ k => some k
  | _ => none
def D.drawK : D → Option Int
  | .draw _ k => some k
  | _ => none
def D.up (p : Int) : D → Int
  | .put _ k => k * p
  | _ => 0
def D.dn (p : Int) : D → Int
  | .draw _ k => k * p
  | _ => 0
theorem act_sum {caps st : List Int} {p : Int} {d : D} (hp : 1 ≤ p) (h : Stand caps p st) (ok : d.ok caps) : st.sum - d.dn p ≤ (d.act caps p st).sum ∧ (d.act caps p st).sum ≤ st.sum + d.up p := by
  have hl := h.len
  cases d with
  | pour a b =>
    obtain ⟨ha, hb, hab⟩ := ok
    simp only [D.act, D.dn, D.up]
    rw [sum_set (by rw [List.length_set]; omega), sum_set (by omega), at0_set (by omega), if_neg hab]
    omega
  | put a k =>
    obtain ⟨ha, hk, _⟩ := ok
    have a0 := h.lo a ha
    have a1 := h.hi a ha
    have kp : 0 ≤ k * p := Int.mul_nonneg (by omega) (by omega)
    simp only [D.act, D.dn, D.up]
    rw [sum_set (by omega)]
    split <;> omega
  | draw a k =>
    obtain ⟨ha, hk, _⟩ := ok
    have a0 := h.lo a ha
    have kp : 0 ≤ k * p := Int.mul_nonneg (by omega) (by omega)
    simp only [D.act, D.dn, D.up]
    rw [sum_set (by omega)]
    split <;> omega
  | change a b =>
    obtain ⟨ha, hb, hab, _⟩ := ok
    simp only [D.act, D.dn, D.up]
    rw [sum_set (by rw [List.length_set]; omega), sum_set (by omega), at0_set (by omega), if_neg hab]
    omega
theorem run_sum {caps : List Int} {p : Int} (hp : 1 ≤ p) : ∀ {ds : List D} {st : List Int}, Stand caps p st → (∀ d ∈ ds, d.ok caps) →
    st.sum - (ds.map (D.dn p)).sum ≤ (run caps p ds st).sum ∧ (run caps p ds st).sum ≤ st.sum + (ds.map (D.up p)).sum
  | [], st, _, _ => by
    show st.sum - 0 ≤ st.sum ∧ st.sum ≤ st.sum + 0
    omega
  | d :: ds, st, h, ok => by
    have o1 := ok d (List.mem_cons_self ..)
    have a := act_sum hp h o1
    have b := run_sum (ds := ds) hp (act_stand hp h o1) fun e he => ok e (List.mem_cons_of_mem _ he)
    show st.sum - (d.dn p + (ds.map (D.dn p)).sum) ≤ (run caps p ds (d.act caps p st)).sum ∧ (run caps p ds (d.act caps p st)).sum ≤ st.sum + (d.up p + (ds.map (D.up p)).sum)
    omega
def putsL (ds : List D) : List Int := ds.filterMap D.putK
def drawsL (ds : List D) : List Int := ds.filterMap D.drawK
theorem ups {p : Int} : ∀ ds : List D, (ds.map (D.up p)).sum = p * (putsL ds).sum
  | [] => (Int.mul_zero p).symm
  | d :: ds => by
    have ih := ups (p := p) ds
    show d.up p + (ds.map (D.up p)).sum = p * (putsL (d :: ds)).sum
    rw [ih]
    cases d with
    | put a k =>
      show k * p + p * (putsL ds).sum = p * (k + (putsL ds).sum)
      rw [Int.mul_add, Int.mul_comm k p]
    | pour a b => exact Int.zero_add _
    | draw a k => exact Int.zero_add _
    | change a b => exact Int.zero_add _
theorem dns {p : Int} : ∀ ds : List D, (ds.map (D.dn p)).sum = p * (drawsL ds).sum
  | [] => (Int.mul_zero p).symm
  | d :: ds => by
    have ih := dns (p := p) ds
    show d.dn p + (ds.map (D.dn p)).sum = p * (drawsL (d :: ds)).sum
    rw [ih]
    cases d with
    | draw a k =>
      show k * p + p * (drawsL ds).sum = p * (k + (drawsL ds).sum)
      rw [Int.mul_add, Int.mul_comm k p]
    | pour a b => exact Int.zero_add _
    | put a k => exact Int.zero_add _
    | change a b => exact Int.zero_add _
theorem pc_sums {p : Int} {ds : List D} : ((ds.filter D.isPC).map (D.dn p)).sum = 0 ∧ ((ds.filter D.isPC).map (D.up p)).sum = 0 := by
  induction ds with
  | nil => exact ⟨rfl, rfl⟩
  | cons d ds ih =>
    cases d with
    | pour a b => exact ⟨(Int.zero_add _).trans ih.1, (Int.zero_add _).trans ih.2⟩
    | change a b => exact ⟨(Int.zero_add _).trans ih.1, (Int.zero_add _).trans ih.2⟩
    | put a k => exact ih
    | draw a k => exact ih
theorem runs_pc {caps : List Int} {p : Int} (hp : 1 ≤ p) {ds : List D} (ok : ∀ d ∈ ds, d.ok caps) : ∀ {n : Nat} {st : List Int}, Stand caps p st → (runs caps p (ds.filter D.isPC) n st).sum = st.sum
  | 0, _, _ => rfl
  | n + 1, st, h => by
    have ok' : ∀ d ∈ ds.filter D.isPC, d.ok caps := fun d hd => ok d (List.mem_filter.mp hd).1
    have ih := runs_pc hp ok (n := n) h
    have b := run_sum hp (runs_stand (n := n) hp ok' h) ok'
    have e := pc_sums (p := p) (ds := ds)
    show (run caps p (ds.filter D.isPC) (runs caps p (ds.filter D.isPC) n st)).sum = st.sum
    omega
/-- the jars that a deed names -/
def D.names : D → List Int
  | .pour a b => [(a : Int), (b : Int)]
  | .put a _ => [(a : Int)]
  | .draw a _ => [(a : Int)]
  | .change a b => [(a : Int), (b : Int)]
theorem act_else {caps st : List Int} {p : Int} {d : D} {i : Nat} (hl : st.length = caps.length) (ok : d.ok caps) (h : (i : Int) ∉ d.names) : at0 (d.act caps p st) i = at0 st i := by
  cases d with
  | pour a b =>
    obtain ⟨ha, hb, _⟩ := ok
    simp only [D.names, List.mem_cons, List.not_mem_nil, or_false, not_or] at h
    simp only [D.act]
    rw [at0_set (by rw [List.length_set]; omega), at0_set (by omega), if_neg (by omega), if_neg (by omega)]
  | put a k =>
    obtain ⟨ha, _⟩ := ok
    simp only [D.names, List.mem_cons, List.not_mem_nil, or_false] at h
    simp only [D.act]
    rw [at0_set (by omega), if_neg (by omega)]
  | draw a k =>
    obtain ⟨ha, _⟩ := ok
    simp only [D.names, List.mem_cons, List.not_mem_nil, or_false] at h
    simp only [D.act]
    rw [at0_set (by omega), if_neg (by omega)]
  | change a b =>
    obtain ⟨ha, hb, _⟩ := ok
    simp only [D.names, List.mem_cons, List.not_mem_nil, or_false, not_or] at h
    simp only [D.act]
    rw [at0_set (by rw [List.length_set]; omega), at0_set (by omega), if_neg (by omega), if_neg (by omega)]
theorem run_else {caps : List Int} {p : Int} {i : Nat} : ∀ {ds : List D} {st : List Int}, st.length = caps.length → (∀ d ∈ ds, d.ok caps) → (i : Int) ∉ ds.flatMap D.names → at0 (run caps p ds st) i = at0 st i
  | [], _, _, _, _ => rfl
  | d :: ds, st, hl, ok, h => by
    rw [List.flatMap_cons, List.mem_append, not_or] at h
    have e := run_else (p := p) (ds := ds) (st := d.act caps p st) (i := i) (act_len.trans hl) (fun e he => ok e (List.mem_cons_of_mem _ he)) h.2
    show at0 (run caps p ds (d.act caps p st)) i = at0 st i
    rw [e, act_else hl (ok d (List.mem_cons_self ..)) h.1]
theorem runs_else {caps : List Int} {p : Int} {i : Nat} {ds : List D} (ok : ∀ d ∈ ds, d.ok caps) (h : (i : Int) ∉ ds.flatMap D.names) : ∀ {n : Nat} {st : List Int}, st.length = caps.length → at0 (runs caps p ds n st) i = at0 st i
  | 0, _, _ => rfl
  | n + 1, st, hl => by
    show at0 (run caps p ds (runs caps p ds n st)) i = at0 st i
    rw [run_else (runs_len.trans hl) ok h, runs_else ok h hl]
end Kp

/-! Kp: the mirror of choices and trees over plain things. No Python here. -/
namespace Kp
/-! ### sorting -/
def insI (x : Int) : List Int → List Int
  | [] => [x]
  | y :: r => if x ≤ y then x :: y :: r else y :: insI x r
def srtI : List Int → List Int
  | [] => []
  | x :: r => insI x (srtI r)
theorem insI_perm (x : Int) : ∀ l : List Int, (insI x l).Perm (x :: l)
  | [] => List.Perm.refl _
  | y :: r => by
    unfold insI
    split
    · exact List.Perm.refl _
    · exact ((insI_perm x r).cons y).trans (List.Perm.swap x y r)
theorem srtI_perm : ∀ l : List Int, (srtI l).Perm l
  | [] => List.Perm.refl _
  | x :: r => (insI_perm x (srtI r)).trans ((srtI_perm r).cons x)
theorem insI_up (x : Int) : ∀ {l : List Int}, l.Pairwise (· ≤ ·) → (insI x l).Pairwise (· ≤ ·)
  | [], _ => by simp [insI]
  | y :: r, h => by
    have h1 := List.pairwise_cons.mp h
    unfold insI
    split
    · rename_i c
      refine List.pairwise_cons.mpr ⟨fun z hz => ?_, h⟩
      rcases List.mem_cons.mp hz with e | e
      · omega
      · have := h1.1 z e
        omega
    · rename_i c
      refine List.pairwise_cons.mpr ⟨fun z hz => ?_, insI_up x h1.2⟩
      rcases List.mem_cons.mp ((insI_perm x r).mem_iff.mp hz) with e | e
      · omega
      · exact h1.1 z e
theorem srtI_up : ∀ l : List Int, (srtI l).Pairwise (· ≤ ·)
  | [] => List.Pairwise.nil
  | x :: r => insI_up x (srtI_up r)
theorem srt_one : ∀ {l m : List Int}, l.Perm m → l.Pairwise (· ≤ ·) → m.Pairwise (· ≤ ·) → l = m
  | [], m, p, _, _ => (List.Perm.nil_eq p)
  | x :: l, [], p, _, _ => absurd p.length_eq (by simp)
  | x :: l, y :: m, p, hl, hm => by
    have h1 := List.pairwise_cons.mp hl
    have h2 := List.pairwise_cons.mp hm
    have e : x = y := by
      have a : x ≤ y := by
        rcases List.mem_cons.mp (p.mem_iff.mpr (List.mem_cons_self ..)) with k | k
        · omega
        · exact h1.1 y k
      have b : y ≤ x := by
        rcases List.mem_cons.mp (p.mem_iff.mp (List.mem_cons_self ..)) with k | k
        · omega
        · exact h2.1 x k
      omega
    subst e
    rw [srt_one (List.Perm.cons_inv p) h1.2 h2.2]
theorem srtI_of {l m : List Int} (p : l.Perm m) (u : l.Pairwise (· ≤ ·)) : l = srtI m := srt_one (p.trans (srtI_perm m).symm) u (srtI_up m)
theorem srtI_len (l : List Int) : (srtI l).length = l.length := (srtI_perm l).length_eq
theorem srtI_nil {l : List Int} : srtI l = [] ↔ l = [] := by
  rw [← List.length_eq_zero_iff, srtI_len, List.length_eq_zero_iff]
theorem srtI_srtI (l : List Int) : srtI (srtI l) = srtI l := (srtI_of (List.Perm.refl _) (srtI_up l)).symm
theorem srtI_mem {l : List Int} {x : Int} : x ∈ srtI l ↔ x ∈ l := (srtI_perm l).mem_iff
/-! ### shares -/
structure Sh where
  g : List Int
  more : Int
  low : Int
  high : Int
  deriving DecidableEq
def Sh.none (m : Int) : Sh := ⟨[], m, 0, 0⟩
def Sh.tog (s t : Sh) : Sh := ⟨srtI (s.g ++ t.g), s.more + t.more, s.low + t.low, s.high + t.high⟩
def Sh.atMost (s : Sh) (l a : Int) : Sh := ⟨s.g, s.more + a, s.low, if l < s.high then l else s.high⟩
def Sh.atLeast (s : Sh) (l a : Int) : Sh := ⟨s.g, s.more + a, if l > s.low then l else s.low, s.high⟩
def atS (l : List Sh) (i : Nat) : Sh := l.getD i ⟨[], 0, 0, 0⟩
theorem atS_get {l : List Sh} {i : Nat} (h : i < l.length) : l[i]? = some (atS l i) := by
  unfold atS
  rw [List.getD_eq_getElem?_getD, List.getElem?_eq_getElem h]
  rfl
theorem atS_of {l : List Sh} {i : Nat} {v : Sh} (h : l[i]? = some v) : atS l i = v := by
  unfold atS
  rw [List.getD_eq_getElem?_getD, h]
  rfl
theorem atS_set {l : List Sh} {i j : Nat} {v : Sh} (h : i < l.length) : atS (l.set i v) j = if i = j then v else atS l j := by
  unfold atS
  rw [List.getD_eq_getElem?_getD, List.getD_eq_getElem?_getD, List.getElem?_set]
  by_cases e : i = j
  · subst e
    simp [h]
  · simp [e]
theorem extS {l m : List Sh} (h : l.length = m.length) (e : ∀ i, i < l.length → atS l i = atS m i) : l = m := by
  apply List.ext_getElem?
  intro i
  by_cases hi : i < l.length
  · rw [atS_get hi, atS_get (h ▸ hi), e i hi]
  · rw [List.getElem?_eq_none (by omega), List.getElem?_eq_none (by omega)]
def firstShares (caps : List Int) : List Sh := (List.range caps.length).map fun (i : Nat) => ⟨[(i : Int)], 0, 0, at0 caps i⟩
/-! ### a deed's test and its ways -/
def D.share (d : D) (l : List Sh) : Sh := match d with
  | .pour a b => (atS l a).tog (atS l b)
  | .put a _ => atS l a
  | .draw a _ => atS l a
  | .change a _ => atS l a
def D.limit (caps : List Int) (d : D) (l : List Sh) : Int := match d with
  | .pour _ b => at0 caps b - (d.share l).more
  | .put a k => at0 caps a - (d.share l).more - k
  | .draw _ k => k - (d.share l).more
  | .change _ k => (k : Int) - (d.share l).more
def D.way1 (caps : List Int) (d : D) (l : List Sh) : List Sh := match d with
  | .pour a b => (l.set a (Sh.none 0)).set b ((d.share l).atMost (d.limit caps l) 0)
  | .put a k => l.set a ((d.share l).atMost (d.limit caps l) k)
  | .draw a _ => l.set a (Sh.none 0)
  | .change a _ => l.set a (Sh.none 0)
def D.way2 (caps : List Int) (d : D) (l : List Sh) : List Sh := match d with
  | .pour a b => (l.set a ((d.share l).atLeast (d.limit caps l) (-(at0 caps b)))).set b (Sh.none (at0 caps b))
  | .put a _ => l.set a (Sh.none (at0 caps a))
  | .draw a k => l.set a ((d.share l).atLeast (d.limit caps l) (-k))
  | .change a k => l.set a ((d.share l).atLeast (d.limit caps l) (-(k : Int)))
def D.ischange : D → Bool
  | .change _ _ => true
  | _ => false
def D.choice (caps : List Int) (d : D) (l : List Sh) : Bool := !d.ischange && (decide ((d.share l).low < d.limit caps l) && decide (d.limit caps l < (d.share l).high))
def D.only (caps : List Int) (d : D) (l : List Sh) : List Sh := match d with
  | .change a b => (l.set a (atS l b)).set b (atS l a)
  | d => if (d.share l).high ≤ d.limit caps l then d.way1 caps l else d.way2 caps l
/-! ### trees -/
inductive Tr where
  | leaf (sums : List (List Int × Int))
  | test (deed : Nat) (g : List Int) (limit : Int) (one other : Tr)
  deriving DecidableEq
def Tr.leaves : Tr → Nat
  | .leaf _ => 1
  | .test _ _ _ a b => a.leaves + b.leaves
def leafOf (l : List Sh) : Tr := .leaf (l.map fun s => (srtI s.g, s.more))
def grow (caps : List Int) (n : Nat) : List D → List Sh → Tr
  | [], l => leafOf l
  | d :: ds, l => if d.choice caps l = true then .test n (srtI (d.share l).g) (d.limit caps l) (grow caps (n + 1) ds (d.way1 caps l)) (grow caps (n + 1) ds (d.way2 caps l)) else grow caps (n + 1) ds (d.only caps l)
def treeOf (caps : List Int) (ds : List D) : Tr := grow caps 0 ds (firstShares caps)
theorem leaves_pos : ∀ t : Tr, 1 ≤ t.leaves
  | .leaf _ => Nat.le_refl _
  | .test _ _ _ a b => Nat.le_trans (leaves_pos a) (Nat.le_add_right _ _)
/-! ### how large groups are -/
def glen (l : List Sh) : Nat := (l.map fun s => s.g.length).sum
theorem glen_set : ∀ {l : List Sh} {i : Nat} {v : Sh}, i < l.length → glen (l.set i v) + (atS l i).g.length = glen l + v.g.length
  | [], i, _, h => absurd h (Nat.not_lt_zero _)
  | x :: r, 0, v, _ => by
    show v.g.length + glen r + x.g.length = x.g.length + glen r + v.g.length
    omega
  | x :: r, i + 1, v, h => by
    have ih := glen_set (l := r) (i := i) (v := v) (by simpa using h)
    show x.g.length + glen (r.set i v) + (atS r i).g.length = x.g.length + glen r + v.g.length
    omega
theorem glen_at : ∀ {l : List Sh} {i : Nat}, i < l.length → (atS l i).g.length ≤ glen l
  | [], i, h => absurd h (Nat.not_lt_zero _)
  | x :: r, 0, _ => Nat.le_add_right _ _
  | x :: r, i + 1, h => Nat.le_trans (glen_at (l := r) (i := i) (by simpa using h)) (Nat.le_add_left _ _)
theorem glen_two {l : List Sh} {a b : Nat} (ha : a < l.length) (hb : b < l.length) (n : a ≠ b) : (atS l a).g.length + (atS l b).g.length ≤ glen l := by
  have h1 := glen_set (l := l) (v := Sh.none 0) ha
  have h2 := glen_at (l := l.set a (Sh.none 0)) (i := b) (by simpa using hb)
  rw [atS_set ha, if_neg n] at h2
  have : (Sh.none 0).g.length = 0 := rfl
  omega
/-- shares of jars of these sizes -/
structure Shs (caps : List Int) (l : List Sh) : Prop where
  len : l.length = caps.length
  few : glen l ≤ 6
theorem tog_len (s t : Sh) : (s.tog t).g.length = s.g.length + t.g.length := by
  show (srtI (s.g ++ t.g)).length = _
  rw [srtI_len, List.length_append]
theorem D.share_len {caps : List Int} {d : D} {l : List Sh} (h : Shs caps l) (ok : d.ok caps) : (d.share l).g.length ≤ 6 := by
  have hl := h.len
  have h6 := h.few
  cases d with
  | pour a b =>
    obtain ⟨h1, h2, h3⟩ := ok
    have := glen_two (l := l) (by omega : a < l.length) (by omega : b < l.length) h3
    show ((atS l a).tog (atS l b)).g.length ≤ 6
    rw [tog_len]
    omega
  | put a k => exact Nat.le_trans (glen_at (by have := ok.1; omega)) h6
  | draw a k => exact Nat.le_trans (glen_at (by have := ok.1; omega)) h6
  | change a k => exact Nat.le_trans (glen_at (by have := ok.1; omega)) h6
theorem set2_few {l : List Sh} {a b : Nat} {x y : Sh} (ha : a < l.length) (hb : b < l.length) (n : a ≠ b) (h : x.g.length + y.g.length ≤ (atS l a).g.length + (atS l b).g.length) : glen ((l.set a x).set b y) ≤ glen l := by
  have h1 := glen_set (l := l) (v := x) ha
  have h2 := glen_set (l := l.set a x) (i := b) (v := y) (by simpa using hb)
  rw [atS_set ha, if_neg n] at h2
  omega
theorem set_few {l : List Sh} {a : Nat} {x : Sh} (ha : a < l.length) (h : x.g.length ≤ (atS l a).g.length) : glen (l.set a x) ≤ glen l := by
  have h1 := glen_set (l := l) (v := x) ha
  omega
theorem Shs.way1 {caps : List Int} {d : D} {l : List Sh} (h : Shs caps l) (ok : d.ok caps) : Shs caps (d.way1 caps l) := by
  have hl := h.len
  have h6 := h.few
  cases d with
  | pour a b =>
    obtain ⟨h1, h2, h3⟩ := ok
    refine ⟨by simp [D.way1, hl], Nat.le_trans (set2_few (by omega) (by omega) h3 ?_) h6⟩
    show 0 + ((atS l a).tog (atS l b)).g.length ≤ _
    rw [tog_len]
    omega
  | put a k => exact ⟨by simp [D.way1, hl], Nat.le_trans (set_few (by have := ok.1; omega) (Nat.le_refl _)) h6⟩
  | draw a k => exact ⟨by simp [D.way1, hl], Nat.le_trans (set_few (by have := ok.1; omega) (Nat.zero_le _)) h6⟩
  | change a k => exact ⟨by simp [D.way1, hl], Nat.le_trans (set_few (by have := ok.1; omega) (Nat.zero_le _)) h6⟩
theorem Shs.way2 {caps : List Int} {d : D} {l : List Sh} (h : Shs caps l) (ok : d.ok caps) : Shs caps (d.way2 caps l) := by
  have hl := h.len
  have h6 := h.few
  cases d with
  | pour a b =>
    obtain ⟨h1, h2, h3⟩ := ok
    refine ⟨by simp [D.way2, hl], Nat.le_trans (set2_few (by omega) (by omega) h3 ?_) h6⟩
    show ((atS l a).tog (atS l b)).g.length + 0 ≤ _
    rw [tog_len]
    omega
  | put a k => exact ⟨by simp [D.way2, hl], Nat.le_trans (set_few (by have := ok.1; omega) (Nat.zero_le _)) h6⟩
  | draw a k => exact ⟨by simp [D.way2, hl], Nat.le_trans (set_few (by have := ok.1; omega) (Nat.le_refl _)) h6⟩
  | change a k => exact ⟨by simp [D.way2, hl], Nat.le_trans (set_few (by have := ok.1; omega) (Nat.le_refl _)) h6⟩
theorem Shs.only {caps : List Int} {d : D} {l : List Sh} (h : Shs caps l) (ok : d.ok caps) : Shs caps (d.only caps l) := by
  cases d with
  | change a b =>
    have hl := h.len
    obtain ⟨h1, h2, h3, _⟩ := ok
    refine ⟨by simp [D.only, hl], Nat.le_trans (set2_few (by omega) (by omega) h3 ?_) h.few⟩
    omega
  | pour a b =>
    unfold D.only
    simp only
    split
    · exact h.way1 ok
    · exact h.way2 ok
  | put a b =>
    unfold D.only
    simp only
    split
    · exact h.way1 ok
    · exact h.way2 ok
  | draw a b =>
    unfold D.only
    simp only
    split
    · exact h.way1 ok
    · exact h.way2 ok
theorem firstShares_len (caps : List Int) : (firstShares caps).length = caps.length := by simp [firstShares]
theorem sum_ones : ∀ n : Nat, ((List.range n).map fun _ => 1).sum = n
  | 0 => rfl
  | n + 1 => by
    rw [List.range_succ, List.map_append, List.sum_append, sum_ones n]
    rfl
theorem Shs.first {caps : List Int} (h : caps.length ≤ 6) : Shs caps (firstShares caps) := by
  refine ⟨firstShares_len caps, ?_⟩
  unfold glen firstShares
  rw [List.map_map]
  have : ((fun s : Sh => s.g.length) ∘ fun i : Nat => (⟨[(i : Int)], 0, 0, at0 caps i⟩ : Sh)) = fun _ => 1 := rfl
  rw [this, sum_ones]
  exact h
/-! ### ways -/
inductive Bd where
  | most (g : List Int) (n : Int) | least (g : List Int) (n : Int) | apart (g h : List Int) (n : Int)
  deriving DecidableEq
def boxOf (caps : List Int) : List Bd := (List.range caps.length).flatMap fun (i : Nat) => [Bd.least [(i : Int)] 0, Bd.most [(i : Int)] (at0 caps i)]
def waysB : List Bd → Tr → List (List Bd × List (List Int × Int))
  | b, .leaf s => [(b, s)]
  | b, .test _ g l t u => waysB (b ++ [Bd.most g l]) t ++ waysB (b ++ [Bd.least g l]) u
def waysOf (caps : List Int) (t : Tr) : List (List Bd × List (List Int × Int)) := waysB (boxOf caps) t
theorem waysB_len : ∀ (t : Tr) (b : List Bd), (waysB b t).length = t.leaves
  | .leaf _, _ => rfl
  | .test _ g l t u, b => by
    show (waysB _ t ++ waysB _ u).length = t.leaves + u.leaves
    rw [List.length_append, waysB_len t, waysB_len u]
/-! ### the trees that are grown -/
def depthT : Tr → Nat
  | .leaf _ => 0
  | .test _ _ _ a b => max (depthT a) (depthT b) + 1
def gfewT : Tr → Prop
  | .leaf _ => True
  | .test _ g _ a b => g.length ≤ 20 ∧ srtI g = g ∧ gfewT a ∧ gfewT b
theorem grow_depth {caps : List Int} : ∀ {ds : List D} {n : Nat} {l : List Sh}, depthT (grow caps n ds l) ≤ ds.length
  | [], _, _ => Nat.le_refl _
  | d :: ds, n, l => by
    show depthT (if d.choice caps l = true then _ else _) ≤ _
    split
    · have h1 := grow_depth (caps := caps) (ds := ds) (n := n + 1) (l := d.way1 caps l)
      have h2 := grow_depth (caps := caps) (ds := ds) (n := n + 1) (l := d.way2 caps l)
      show max _ _ + 1 ≤ ds.length + 1
      omega
    · exact Nat.le_succ_of_le grow_depth
theorem grow_gfew {caps : List Int} : ∀ {ds : List D} {n : Nat} {l : List Sh}, Shs caps l → (∀ d ∈ ds, d.ok caps) → gfewT (grow caps n ds l)
  | [], _, _, _, _ => trivial
  | d :: ds, n, l, h, ok => by
    have okd := ok d (List.mem_cons_self ..)
    have okr : ∀ d ∈ ds, d.ok caps := fun e he => ok e (List.mem_cons_of_mem _ he)
    show gfewT (if d.choice caps l = true then _ else _)
    split
    · refine ⟨?_, srtI_srtI _, grow_gfew (h.way1 okd) okr, grow_gfew (h.way2 okd) okr⟩
      rw [srtI_len]
      exact Nat.le_trans (D.share_len h okd) (by decide)
    · exact grow_gfew (h.only okd) okr
end Kp

/-! Kp: how many leaves a tree has, counted by rooms. No Python here. -/
namespace Kp
def Sh.cat (s t : Sh) : Sh := ⟨s.g ++ t.g, s.more + t.more, s.low + t.low, s.high + t.high⟩
def D.mine (d : D) (r : List Sh) : Sh := match d with
  | .pour a b => (atS r a).cat (atS r b)
  | .put a _ => atS r a
  | .draw a _ => atS r a
  | .change a _ => atS r a
def D.lim (caps : List Int) (d : D) (r : List Sh) : Int := match d with
  | .pour _ b => at0 caps b - (d.mine r).more
  | .put a k => at0 caps a - (d.mine r).more - k
  | .draw _ k => k - (d.mine r).more
  | .change _ _ => 0
def rwLow (m : Sh) (l n : Int) : Sh := ⟨m.g, n, m.low, if l < m.high then l else m.high⟩
def rwHigh (m : Sh) (l n : Int) : Sh := ⟨m.g, n, if l > m.low then l else m.low, m.high⟩
def rway1 (caps : List Int) (d : D) (r : List Sh) : List (Nat × Sh) := match d with
  | .pour a b => [(a, Sh.none 0), (b, rwLow (d.mine r) (d.lim caps r) (d.mine r).more)]
  | .put a k => [(a, rwLow (d.mine r) (d.lim caps r) ((d.mine r).more + k))]
  | .draw a _ => [(a, Sh.none 0)]
  | .change _ _ => []
def rway2 (caps : List Int) (d : D) (r : List Sh) : List (Nat × Sh) := match d with
  | .pour a b => [(a, rwHigh (d.mine r) (d.lim caps r) ((d.mine r).more - at0 caps b)), (b, Sh.none (at0 caps b))]
  | .put a _ => [(a, Sh.none (at0 caps a))]
  | .draw a k => [(a, rwHigh (d.mine r) (d.lim caps r) ((d.mine r).more - k))]
  | .change _ _ => []
def asRoom (m s : Sh) : Sh := if s.g = m.g ∧ m.g ≠ [] then ⟨m.g, s.more, m.low, m.high⟩ else s
def asWas (m : Sh) (f : List (Nat × Sh)) : List (Nat × Sh) := f.map fun p => (p.1, asRoom m p.2)
def roomsOf (caps : List Int) (d : D) (r : List Sh) : List (List (Nat × Sh)) :=
  if (d.mine r).g ≠ [] ∧ (d.mine r).low < d.lim caps r ∧ d.lim caps r < (d.mine r).high then [rway1 caps d r, rway2 caps d r]
  else if (d.mine r).g = [] then [if d.lim caps r < 0 then rway2 caps d r else rway1 caps d r]
  else [asWas (d.mine r) (if (d.mine r).high > d.lim caps r then rway2 caps d r else rway1 caps d r)]
def getF (f : List (Nat × Sh)) (r : List Sh) (j : Nat) : Sh := (f.lookup j).getD (atS r j)
def applyF (n : Nat) (f : List (Nat × Sh)) (r : List Sh) : List Sh := (List.range n).map (getF f r)
def swapS (r : List Sh) (a b : Nat) : List Sh := (r.set a (atS r b)).set b (atS r a)
def cntL (caps : List Int) : List D → List Sh → Nat
  | [], _ => 1
  | .change a b :: ds, r => cntL caps ds (swapS r a b)
  | d :: ds, r => ((roomsOf caps d r).map fun f => cntL caps ds (applyF caps.length f r)).sum
structure RelS (s r : Sh) : Prop where
  more : s.more = r.more
  low : s.low = r.low
  high : s.high = r.high
  g : s.g = [] ↔ r.g = []
  z : s.g = [] → s.low = 0 ∧ s.high = 0
structure RelL (l r : List Sh) : Prop where
  len : l.length = r.length
  at_ : ∀ i, i < l.length → RelS (atS l i) (atS r i)
theorem applyF_len {n : Nat} {f : List (Nat × Sh)} {r : List Sh} : (applyF n f r).length = n := by simp [applyF]
theorem applyF_at {n : Nat} {f : List (Nat × Sh)} {r : List Sh} {i : Nat} (h : i < n) : atS (applyF n f r) i = getF f r i :=
  atS_of (by unfold applyF; rw [List.getElem?_map, List.getElem?_range h]; rfl)
theorem getF1 {a : Nat} {s : Sh} {r : List Sh} {i : Nat} : getF [(a, s)] r i = if a = i then s else atS r i := by
  unfold getF
  by_cases e : a = i
  · subst e
    simp [List.lookup]
  · rw [if_neg e]
    have : (i == a) = false := by simpa using fun z => e z.symm
    simp [List.lookup, this]
theorem getF2 {a b : Nat} {s t : Sh} {r : List Sh} {i : Nat} (n : a ≠ b) : getF [(a, s), (b, t)] r i = if b = i then t else if a = i then s else atS r i := by
  unfold getF
  by_cases e : a = i
  · subst e
    rw [if_neg (fun z => n z.symm), if_pos rfl]
    simp [List.lookup]
  · have h1 : (i == a) = false := by simpa using fun z => e z.symm
    rw [if_neg e]
    by_cases e2 : b = i
    · subst e2
      rw [if_pos rfl]
      simp [List.lookup, h1]
    · rw [if_neg e2]
      have h2 : (i == b) = false := by simpa using fun z => e2 z.symm
      simp [List.lookup, h1, h2]
theorem rel_none (m : Int) : RelS (Sh.none m) (Sh.none m) := ⟨rfl, rfl, rfl, Iff.rfl, fun _ => ⟨rfl, rfl⟩⟩
theorem rel_set1 {caps : List Int} {l r : List Sh} {a : Nat} {s t : Sh} (h : RelL l r) (hl : l.length = caps.length) (ha : a < caps.length) (e : RelS s t) : RelL (l.set a s) (applyF caps.length [(a, t)] r) := by
  refine ⟨by rw [List.length_set, applyF_len, hl], fun i hi => ?_⟩
  rw [List.length_set] at hi
  rw [applyF_at (by omega), getF1, atS_set (by omega)]
  split
  · exact e
  · exact h.at_ i hi
theorem rel_set2 {caps : List Int} {l r : List Sh} {a b : Nat} {s t s' t' : Sh} (h : RelL l r) (hl : l.length = caps.length) (ha : a < caps.length) (hb : b < caps.length) (n : a ≠ b) (e : RelS s t) (e' : RelS s' t') :
    RelL ((l.set a s).set b s') (applyF caps.length [(a, t), (b, t')] r) := by
  refine ⟨by rw [List.length_set, List.length_set, applyF_len, hl], fun i hi => ?_⟩
  rw [List.length_set, List.length_set] at hi
  rw [applyF_at (by omega), getF2 n, atS_set (by rw [List.length_set]; omega), atS_set (by omega)]
  split
  · exact e'
  · split
    · exact e
    · exact h.at_ i hi
theorem rel_share {caps : List Int} {l r : List Sh} {d : D} (h : RelL l r) (hl : l.length = caps.length) (ok : d.ok caps) : RelS (d.share l) (d.mine r) := by
  cases d with
  | pour a b =>
    obtain ⟨h1, h2, _⟩ := ok
    have ea := h.at_ a (by omega)
    have eb := h.at_ b (by omega)
    refine ⟨?_, ?_, ?_, ?_, ?_⟩
    · show (atS l a).more + (atS l b).more = (atS r a).more + (atS r b).more
      rw [ea.more, eb.more]
    · show (atS l a).low + (atS l b).low = (atS r a).low + (atS r b).low
      rw [ea.low, eb.low]
    · show (atS l a).high + (atS l b).high = (atS r a).high + (atS r b).high
      rw [ea.high, eb.high]
    · show srtI ((atS l a).g ++ (atS l b).g) = [] ↔ (atS r a).g ++ (atS r b).g = []
      rw [srtI_nil, List.append_eq_nil_iff, List.append_eq_nil_iff, ea.g, eb.g]
    · intro z
      have z : srtI ((atS l a).g ++ (atS l b).g) = [] := z
      rw [srtI_nil, List.append_eq_nil_iff] at z
      have za := ea.z z.1
      have zb := eb.z z.2
      show (atS l a).low + (atS l b).low = 0 ∧ (atS l a).high + (atS l b).high = 0
      omega
  | put a k => exact h.at_ a (by have := ok.1; omega)
  | draw a k => exact h.at_ a (by have := ok.1; omega)
  | change a k => exact h.at_ a (by have := ok.1; omega)
theorem rel_limit {caps : List Int} {l r : List Sh} {d : D} (e : RelS (d.share l) (d.mine r)) (nc : d.ischange = false) : d.limit caps l = d.lim caps r := by
  cases d with
  | pour a b => exact congrArg (at0 caps b - ·) e.more
  | put a k => exact congrArg (at0 caps a - · - k) e.more
  | draw a k => exact congrArg (k - ·) e.more
  | change a k => cases nc
theorem rel_low {s m : Sh} {l n : Int} (e : RelS s m) (k : s.g = [] → 0 ≤ l) : RelS (s.atMost l n) (rwLow m l (m.more + n)) := by
  refine ⟨?_, e.low, ?_, e.g, fun z => ?_⟩
  · show s.more + n = m.more + n
    rw [e.more]
  · show (if l < s.high then l else s.high) = (if l < m.high then l else m.high)
    rw [e.high]
  · have := e.z z
    have := k z
    refine ⟨(e.z z).1, ?_⟩
    show (if l < s.high then l else s.high) = 0
    split <;> omega
theorem rel_high {s m : Sh} {l n : Int} (e : RelS s m) (k : s.g = [] → l ≤ 0) : RelS (s.atLeast l n) (rwHigh m l (m.more + n)) := by
  refine ⟨?_, ?_, e.high, e.g, fun z => ?_⟩
  · show s.more + n = m.more + n
    rw [e.more]
  · show (if l > s.low then l else s.low) = (if l > m.low then l else m.low)
    rw [e.low]
  · have := e.z z
    have := k z
    refine ⟨?_, (e.z z).2⟩
    show (if l > s.low then l else s.low) = 0
    split <;> omega
theorem rel_way1 {caps : List Int} {l r : List Sh} {d : D} (h : RelL l r) (hl : l.length = caps.length) (ok : d.ok caps) (nc : d.ischange = false) (k : (d.share l).g = [] → 0 ≤ d.limit caps l) :
    RelL (d.way1 caps l) (applyF caps.length (rway1 caps d r) r) := by
  have e := rel_share h hl ok
  have el := rel_limit (caps := caps) e nc
  cases d with
  | pour a b =>
    obtain ⟨h1, h2, h3⟩ := ok
    refine rel_set2 h hl h1 h2 h3 (rel_none 0) ?_
    have q := rel_low (n := 0) e k
    rw [el, Int.add_zero] at q
    rw [el]
    exact q
  | put a n =>
    refine rel_set1 h hl ok.1 ?_
    have q := rel_low (n := n) e k
    rw [el] at q
    rw [el]
    exact q
  | draw a n => exact rel_set1 h hl ok.1 (rel_none 0)
  | change a n => cases nc
theorem rel_way2 {caps : List Int} {l r : List Sh} {d : D} (h : RelL l r) (hl : l.length = caps.length) (ok : d.ok caps) (nc : d.ischange = false) (k : (d.share l).g = [] → d.limit caps l ≤ 0) :
    RelL (d.way2 caps l) (applyF caps.length (rway2 caps d r) r) := by
  have e := rel_share h hl ok
  have el := rel_limit (caps := caps) e nc
  cases d with
  | pour a b =>
    obtain ⟨h1, h2, h3⟩ := ok
    refine rel_set2 h hl h1 h2 h3 ?_ (rel_none _)
    have q := rel_high (n := -(at0 caps b)) e k
    rw [el, ← Int.sub_eq_add_neg] at q
    rw [el]
    exact q
  | put a n => exact rel_set1 h hl ok.1 (rel_none _)
  | draw a n =>
    refine rel_set1 h hl ok.1 ?_
    have q := rel_high (n := -n) e k
    rw [el, ← Int.sub_eq_add_neg] at q
    rw [el]
    exact q
  | change a n => cases nc
theorem rel_as {s t m : Sh} (e : RelS s t) (k : t.g = m.g → m.g ≠ [] → s.low = m.low ∧ s.high = m.high) : RelS s (asRoom m t) := by
  unfold asRoom
  split
  · rename_i c
    obtain ⟨k1, k2⟩ := k c.1 c.2
    refine ⟨e.more, k1, k2, ?_, e.z⟩
    rw [e.g, c.1]
  · exact e
theorem asR_none {m : Sh} (n : Int) : asRoom m (Sh.none n) = Sh.none n := by
  unfold asRoom
  rw [if_neg]
  rintro ⟨h1, h2⟩
  exact h2 h1.symm
theorem rel_way1A {caps : List Int} {l r : List Sh} {d : D} (h : RelL l r) (hl : l.length = caps.length) (ok : d.ok caps) (nc : d.ischange = false) (ng : (d.mine r).g ≠ []) (k : (d.share l).high ≤ d.limit caps l) :
    RelL (d.way1 caps l) (applyF caps.length (asWas (d.mine r) (rway1 caps d r)) r) := by
  have e := rel_share h hl ok
  have el := rel_limit (caps := caps) e nc
  have ng' : (d.share l).g ≠ [] := fun z => ng (e.g.mp z)
  have low : ∀ n, RelS ((d.share l).atMost (d.limit caps l) n) (asRoom (d.mine r) (rwLow (d.mine r) (d.lim caps r) ((d.mine r).more + n))) := fun n => by
    rw [← el]
    refine rel_as (rel_low e fun z => absurd z ng') fun _ _ => ⟨e.low, ?_⟩
    show (if d.limit caps l < (d.share l).high then d.limit caps l else (d.share l).high) = _
    rw [if_neg (by omega)]
    exact e.high
  cases d with
  | pour a b =>
    obtain ⟨h1, h2, h3⟩ := ok
    have q := low 0
    rw [Int.add_zero] at q
    show RelL _ (applyF caps.length [(a, asRoom _ (Sh.none 0)), (b, _)] r)
    rw [asR_none]
    exact rel_set2 h hl h1 h2 h3 (rel_none 0) q
  | put a n => exact rel_set1 h hl ok.1 (low n)
  | draw a n =>
    show RelL _ (applyF caps.length [(a, asRoom _ (Sh.none 0))] r)
    rw [asR_none]
    exact rel_set1 h hl ok.1 (rel_none 0)
  | change a n => cases nc
theorem rel_way2A {caps : List Int} {l r : List Sh} {d : D} (h : RelL l r) (hl : l.length = caps.length) (ok : d.ok caps) (nc : d.ischange = false) (ng : (d.mine r).g ≠ []) (k : d.limit caps l ≤ (d.share l).low) :
    RelL (d.way2 caps l) (applyF caps.length (asWas (d.mine r) (rway2 caps d r)) r) := by
  have e := rel_share h hl ok
  have el := rel_limit (caps := caps) e nc
  have ng' : (d.share l).g ≠ [] := fun z => ng (e.g.mp z)
  have high : ∀ n, RelS ((d.share l).atLeast (d.limit caps l) (-n)) (asRoom (d.mine r) (rwHigh (d.mine r) (d.lim caps r) ((d.mine r).more - n))) := fun n => by
    rw [← el, Int.sub_eq_add_neg]
    refine rel_as (rel_high e fun z => absurd z ng') fun _ _ => ⟨?_, e.high⟩
    show (if d.limit caps l > (d.share l).low then d.limit caps l else (d.share l).low) = _
    rw [if_neg (by omega)]
    exact e.low
  cases d with
  | pour a b =>
    obtain ⟨h1, h2, h3⟩ := ok
    show RelL _ (applyF caps.length [(a, _), (b, asRoom _ (Sh.none _))] r)
    rw [asR_none]
    exact rel_set2 h hl h1 h2 h3 (high _) (rel_none _)
  | put a n =>
    show RelL _ (applyF caps.length [(a, asRoom _ (Sh.none _))] r)
    rw [asR_none]
    exact rel_set1 h hl ok.1 (rel_none _)
  | draw a n => exact rel_set1 h hl ok.1 (high n)
  | change a n => cases nc
theorem rel_swap {caps : List Int} {l r : List Sh} {a b : Nat} (h : RelL l r) (hl : l.length = caps.length) (ha : a < caps.length) (hb : b < caps.length) : RelL ((l.set a (atS l b)).set b (atS l a)) (swapS r a b) := by
  have hr := h.len
  refine ⟨by simp [swapS, hr], fun i hi => ?_⟩
  rw [List.length_set, List.length_set] at hi
  unfold swapS
  rw [atS_set (by rw [List.length_set]; omega), atS_set (by omega), atS_set (by rw [List.length_set]; omega), atS_set (by omega)]
  split
  · exact h.at_ a (by omega)
  · split
    · exact h.at_ b (by omega)
    · exact h.at_ i hi
theorem way1_len {caps : List Int} {l : List Sh} {d : D} : (d.way1 caps l).length = l.length := by cases d <;> simp [D.way1]
theorem way2_len {caps : List Int} {l : List Sh} {d : D} : (d.way2 caps l).length = l.length := by cases d <;> simp [D.way2]
theorem cnt_leaves {caps : List Int} : ∀ {ds : List D} {n : Nat} {l r : List Sh}, RelL l r → l.length = caps.length → (∀ d ∈ ds, d.ok caps) → (grow caps n ds l).leaves = cntL caps ds r
  | [], _, _, _, _, _, _ => rfl
  | d :: ds, n, l, r, h, hl, ok => by
    have okd := ok d (List.mem_cons_self ..)
    have okr : ∀ d ∈ ds, d.ok caps := fun e he => ok e (List.mem_cons_of_mem _ he)
    by_cases nc : d.ischange = false
    · have e := rel_share h hl okd
      have el := rel_limit (caps := caps) e nc
      have ec : cntL caps (d :: ds) r = ((roomsOf caps d r).map fun f => cntL caps ds (applyF caps.length f r)).sum := by
        cases d <;> first | rfl | cases nc
      have eo : d.only caps l = if (d.share l).high ≤ d.limit caps l then d.way1 caps l else d.way2 caps l := by cases d <;> first | rfl | cases nc
      have eg : (grow caps n (d :: ds) l) = if d.choice caps l = true then .test n (srtI (d.share l).g) (d.limit caps l) (grow caps (n + 1) ds (d.way1 caps l)) (grow caps (n + 1) ds (d.way2 caps l)) else grow caps (n + 1) ds (d.only caps l) := rfl
      have ch : d.choice caps l = true ↔ (d.share l).low < d.limit caps l ∧ d.limit caps l < (d.share l).high := by
        unfold D.choice
        rw [nc]
        simp
      rw [ec, eg]
      unfold roomsOf
      rw [← el, ← e.low, ← e.high]
      by_cases c : (d.share l).low < d.limit caps l ∧ d.limit caps l < (d.share l).high
      · have ng : (d.share l).g ≠ [] := fun z => by
          have := e.z z
          omega
        rw [if_pos (ch.mpr c), if_pos ⟨fun z => ng (e.g.mpr z), c⟩]
        show _ + _ = _ + (_ + 0)
        rw [cnt_leaves (rel_way1 h hl okd nc fun z => absurd z ng) (by rw [way1_len, hl]) okr, cnt_leaves (rel_way2 h hl okd nc fun z => absurd z ng) (by rw [way2_len, hl]) okr]
        rfl
      · rw [if_neg (fun z => c (ch.mp z)), if_neg (fun z => c z.2), eo]
        by_cases g : (d.mine r).g = []
        · rw [if_pos g]
          have gs := e.g.mpr g
          have z := e.z gs
          by_cases k : d.limit caps l < 0
          · rw [if_neg (by omega), if_pos k]
            show _ = _ + 0
            rw [cnt_leaves (rel_way2 h hl okd nc fun _ => by omega) (by rw [way2_len, hl]) okr]
            rfl
          · rw [if_pos (by omega), if_neg k]
            show _ = _ + 0
            rw [cnt_leaves (rel_way1 h hl okd nc fun _ => by omega) (by rw [way1_len, hl]) okr]
            rfl
        · rw [if_neg g]
          by_cases k : (d.share l).high > d.limit caps l
          · rw [if_neg (by omega), if_pos k]
            show _ = _ + 0
            rw [cnt_leaves (rel_way2A h hl okd nc g (by omega)) (by rw [way2_len, hl]) okr]
            rfl
          · rw [if_pos (by omega), if_neg k]
            show _ = _ + 0
            rw [cnt_leaves (rel_way1A h hl okd nc g (by omega)) (by rw [way1_len, hl]) okr]
            rfl
    · cases d with
      | change a b =>
        show (grow caps (n + 1) ds ((l.set a (atS l b)).set b (atS l a))).leaves = cntL caps ds (swapS r a b)
        exact cnt_leaves (rel_swap h hl okd.1 okd.2.1) (by simp [hl]) okr
      | pour a b => exact absurd rfl nc
      | put a b => exact absurd rfl nc
      | draw a b => exact absurd rfl nc
def firstRooms (caps : List Int) : List Sh := firstShares caps
theorem rel_first (caps : List Int) : RelL (firstShares caps) (firstShares caps) := by
  refine ⟨rfl, fun i hi => ?_⟩
  rw [firstShares_len] at hi
  have e : atS (firstShares caps) i = ⟨[(i : Int)], 0, 0, at0 caps i⟩ := atS_of (by unfold firstShares; rw [List.getElem?_map, List.getElem?_range hi]; rfl)
  rw [e]
  exact ⟨rfl, rfl, rfl, Iff.rfl, fun z => by cases z⟩
theorem tree_cnt {caps : List Int} {ds : List D} (ok : ∀ d ∈ ds, d.ok caps) : (treeOf caps ds).leaves = cntL caps ds (firstShares caps) := cnt_leaves (rel_first caps) (firstShares_len caps) ok
/-! ### how large the rooms' groups are -/
theorem applyF1 {r : List Sh} {n a : Nat} {s : Sh} (hl : r.length = n) (ha : a < n) : applyF n [(a, s)] r = r.set a s := by
  refine extS (by rw [applyF_len, List.length_set, hl]) fun i hi => ?_
  rw [applyF_len] at hi
  rw [applyF_at hi, getF1, atS_set (by omega)]
theorem applyF2 {r : List Sh} {n a b : Nat} {s t : Sh} (hl : r.length = n) (ha : a < n) (hb : b < n) (h : a ≠ b) : applyF n [(a, s), (b, t)] r = (r.set a s).set b t := by
  refine extS (by rw [applyF_len, List.length_set, List.length_set, hl]) fun i hi => ?_
  rw [applyF_len] at hi
  rw [applyF_at hi, getF2 h, atS_set (by rw [List.length_set]; omega), atS_set (by omega)]
theorem asRoom_g {m s : Sh} : (asRoom m s).g = s.g := by
  unfold asRoom
  split
  · rename_i h
    exact h.1.symm
  · rfl
theorem rooms_glen {caps : List Int} {d : D} {r : List Sh} (hl : r.length = caps.length) (ok : d.ok caps) (nc : d.ischange = false) : ∀ f ∈ roomsOf caps d r, glen (applyF caps.length f r) ≤ glen r := by
  have key : ∀ (g : Sh → Sh), (∀ s, (g s).g = s.g) → ∀ f, (f = (rway1 caps d r).map (fun p => (p.1, g p.2)) ∨ f = (rway2 caps d r).map (fun p => (p.1, g p.2))) → glen (applyF caps.length f r) ≤ glen r := by
    intro g hg f hf
    cases d with
    | pour a b =>
      obtain ⟨h1, h2, h3⟩ := ok
      rcases hf with rfl | rfl
      · show glen (applyF caps.length [(a, g _), (b, g _)] r) ≤ _
        rw [applyF2 hl h1 h2 h3]
        refine set2_few (by omega) (by omega) h3 ?_
        rw [hg, hg]
        show 0 + ((atS r a).g ++ (atS r b).g).length ≤ _
        rw [List.length_append]
        omega
      · show glen (applyF caps.length [(a, g _), (b, g _)] r) ≤ _
        rw [applyF2 hl h1 h2 h3]
        refine set2_few (by omega) (by omega) h3 ?_
        rw [hg, hg]
        show ((atS r a).g ++ (atS r b).g).length + 0 ≤ _
        rw [List.length_append]
        omega
    | put a k =>
      rcases hf with rfl | rfl
      · show glen (applyF caps.length [(a, g _)] r) ≤ _
        rw [applyF1 hl ok.1]
        refine set_few (by have := ok.1; omega) ?_
        rw [hg]
        exact Nat.le_refl _
      · show glen (applyF caps.length [(a, g _)] r) ≤ _
        rw [applyF1 hl ok.1]
        refine set_few (by have := ok.1; omega) ?_
        rw [hg]
        exact Nat.zero_le _
    | draw a k =>
      rcases hf with rfl | rfl
      · show glen (applyF caps.length [(a, g _)] r) ≤ _
        rw [applyF1 hl ok.1]
        refine set_few (by have := ok.1; omega) ?_
        rw [hg]
        exact Nat.zero_le _
      · show glen (applyF caps.length [(a, g _)] r) ≤ _
        rw [applyF1 hl ok.1]
        refine set_few (by have := ok.1; omega) ?_
        rw [hg]
        exact Nat.le_refl _
    | change a k => cases nc
  have kid : ∀ f, f = rway1 caps d r ∨ f = rway2 caps d r → glen (applyF caps.length f r) ≤ glen r := fun f hf => key id (fun _ => rfl) f (hf.elim (fun e => .inl (by rw [e]; simp)) (fun e => .inr (by rw [e]; simp)))
  intro f hf
  unfold roomsOf at hf
  split at hf
  · rcases List.mem_cons.mp hf with e | e
    · exact kid f (.inl e)
    · exact kid f (.inr (by simpa using e))
  · split at hf
    · have e := List.mem_singleton.mp hf
      split at e
      · exact kid f (.inr e)
      · exact kid f (.inl e)
    · have e := List.mem_singleton.mp hf
      split at e
      · exact key (asRoom (d.mine r)) (fun _ => asRoom_g) f (.inr e)
      · exact key (asRoom (d.mine r)) (fun _ => asRoom_g) f (.inl e)
theorem rooms_two {caps : List Int} {d : D} {r : List Sh} : (roomsOf caps d r).length ≤ 2 := by
  unfold roomsOf
  split
  · exact Nat.le_refl _
  · split <;> exact Nat.le_succ _
theorem mine_len {caps : List Int} {d : D} {r : List Sh} (hl : r.length = caps.length) (ok : d.ok caps) : (d.mine r).g.length ≤ glen r := by
  cases d with
  | pour a b =>
    obtain ⟨h1, h2, h3⟩ := ok
    show ((atS r a).g ++ (atS r b).g).length ≤ _
    rw [List.length_append]
    exact glen_two (by omega) (by omega) h3
  | put a k => exact glen_at (by have := ok.1; omega)
  | draw a k => exact glen_at (by have := ok.1; omega)
  | change a k => exact glen_at (by have := ok.1; omega)
theorem swap_glen {r : List Sh} {a b : Nat} (ha : a < r.length) (hb : b < r.length) (h : a ≠ b) : glen (swapS r a b) ≤ glen r := set2_few ha hb h (by omega)
/-! ### what waits -/
structure StOk (caps : List Int) (n : Nat) (e : Nat × List Sh) : Prop where
  at_ : e.1 ≤ n
  len : e.2.length = caps.length
  few : glen e.2 ≤ 6
def totS (caps : List Int) (ds : List D) (st : List (Nat × List Sh)) : Nat := (st.map fun e => cntL caps (ds.drop e.1) e.2).sum
def meaS (n : Nat) (st : List (Nat × List Sh)) : Nat := (st.map fun e => 3 ^ (n - e.1)).sum
theorem totS_app {caps : List Int} {ds : List D} {s t : List (Nat × List Sh)} : totS caps ds (s ++ t) = totS caps ds s + totS caps ds t := by simp [totS]
theorem meaS_app {n : Nat} {s t : List (Nat × List Sh)} : meaS n (s ++ t) = meaS n s + meaS n t := by simp [meaS]
theorem cnt_pos {caps : List Int} : ∀ {ds : List D} {r : List Sh}, 1 ≤ cntL caps ds r
  | [], _ => Nat.le_refl _
  | d :: ds, r => by
    have key : 1 ≤ ((roomsOf caps d r).map fun f => cntL caps ds (applyF caps.length f r)).sum := by
      unfold roomsOf
      split
      · exact Nat.le_trans cnt_pos (Nat.le_add_right _ _)
      · split
        · exact Nat.le_trans cnt_pos (Nat.le_add_right _ _)
        · exact Nat.le_trans cnt_pos (Nat.le_add_right _ _)
    cases d with
    | change a b => exact cnt_pos (ds := ds)
    | pour a b => exact key
    | put a b => exact key
    | draw a b => exact key
def after (caps : List Int) (i : Nat) (d : D) (r : List Sh) : List (Nat × List Sh) := match d with
  | .change a b => [(i, swapS r a b)]
  | d => (roomsOf caps d r).map fun f => (i, applyF caps.length f r)
theorem tot_after {caps : List Int} {ds : List D} {i : Nat} {d : D} {r : List Sh} (h : ds[i]? = some d) : totS caps ds [(i, r)] = totS caps ds (after caps (i + 1) d r) := by
  have hi : i < ds.length := (List.getElem?_eq_some_iff.mp h).1
  have hdrop : ds.drop i = d :: ds.drop (i + 1) := by
    rw [List.drop_eq_getElem_cons hi]
    congr 1
    have := List.getElem?_eq_getElem hi
    rw [h] at this
    exact (Option.some.inj this).symm
  show cntL caps (ds.drop i) r + 0 = _
  rw [hdrop]
  cases d <;> simp [after, totS, cntL, Function.comp_def]
theorem mea_after {caps : List Int} {n i : Nat} {d : D} {r : List Sh} (h : i < n) : meaS n (after caps (i + 1) d r) < meaS n [(i, r)] := by
  have e : n - i = n - (i + 1) + 1 := by omega
  have p : 1 ≤ 3 ^ (n - (i + 1)) := Nat.pow_pos (by decide)
  have z : meaS n [(i, r)] = 3 ^ (n - (i + 1)) * 3 := by
    show 3 ^ (n - i) + 0 = _
    rw [e, Nat.pow_succ, Nat.add_zero]
  rw [z]
  have key : ∀ l : List (List (Nat × Sh)), l.length ≤ 2 → meaS n (l.map fun f => (i + 1, applyF caps.length f r)) ≤ 3 ^ (n - (i + 1)) * 2
    | [], _ => Nat.zero_le _
    | [a], _ => by
      show 3 ^ (n - (i + 1)) + 0 ≤ _
      omega
    | [a, b], _ => by
      show 3 ^ (n - (i + 1)) + (3 ^ (n - (i + 1)) + 0) ≤ _
      omega
  cases d with
  | change a b =>
    show 3 ^ (n - (i + 1)) + 0 < _
    omega
  | pour a b => exact Nat.lt_of_le_of_lt (key _ rooms_two) (by omega)
  | put a b => exact Nat.lt_of_le_of_lt (key _ rooms_two) (by omega)
  | draw a b => exact Nat.lt_of_le_of_lt (key _ rooms_two) (by omega)
theorem after_ok {caps : List Int} {n i : Nat} {d : D} {r : List Sh} (h : i < n) (ok : d.ok caps) (hl : r.length = caps.length) (h6 : glen r ≤ 6) : ∀ e ∈ after caps (i + 1) d r, StOk caps n e := by
  have key : d.ischange = false → ∀ e ∈ (roomsOf caps d r).map (fun f => (i + 1, applyF caps.length f r)), StOk caps n e := fun nc e he => by
    obtain ⟨f, hf, rfl⟩ := List.mem_map.mp he
    exact ⟨h, applyF_len, Nat.le_trans (rooms_glen hl ok nc f hf) h6⟩
  cases d with
  | change a b =>
    intro e he
    obtain rfl := List.mem_singleton.mp he
    exact ⟨h, by simp [swapS, hl], Nat.le_trans (swap_glen (by have := ok.1; omega) (by have := ok.2.1; omega) ok.2.2.1) h6⟩
  | pour a b => exact key rfl
  | put a b => exact key rfl
  | draw a b => exact key rfl
end Kp

namespace Kp
/-! ### amounts in finer parts, greater houses -/
def mulL (m : Int) (l : List Int) : List Int := l.map (· * m)
theorem at0_mul {m : Int} {l : List Int} {i : Nat} : at0 (mulL m l) i = at0 l i * m := by
  by_cases h : i < l.length
  · exact at0_map h
  · unfold at0 mulL
    rw [List.getD_eq_getElem?_getD, List.getD_eq_getElem?_getD, List.getElem?_eq_none (by simp; omega), List.getElem?_eq_none (by omega)]
    simp
def D.sc (m : Int) : D → D
  | .pour a b => .pour a b
  | .put a k => .put a (k * m)
  | .draw a k => .draw a (k * m)
  | .change a b => .change a b
theorem lt_mul {x y q : Int} (hq : 0 < q) : x * q < y * q ↔ x < y := ⟨fun h => Int.lt_of_mul_lt_mul_right h (Int.le_of_lt hq), fun h => Int.mul_lt_mul_of_pos_right h hq⟩
theorem min_mul {x y q : Int} (hq : 0 < q) : (if x * q < y * q then x * q else y * q) = (if x < y then x else y) * q := by
  by_cases h : x < y
  · rw [if_pos h, if_pos ((lt_mul hq).mpr h)]
  · rw [if_neg h, if_neg (fun z => h ((lt_mul hq).mp z))]
theorem max_mul {x q : Int} (hq : 0 < q) : (if 0 > x * q then 0 else x * q) = (if 0 > x then 0 else x) * q := by
  have e : x * q < 0 ↔ x < 0 := by
    have := @lt_mul x 0 q hq
    rwa [Int.zero_mul] at this
  by_cases h : 0 > x
  · rw [if_pos h, if_pos (e.mpr h), Int.zero_mul]
  · rw [if_neg h, if_neg (fun z => h (e.mp z))]
theorem act_sc {m p p' q : Int} (e : m * p' = p * q) (hq : 0 < q) {caps st : List Int} {d : D} : (d.sc m).act (mulL m caps) p' (mulL q st) = mulL q (d.act caps p st) := by
  have ec : ∀ x : Int, x * m * p' = x * p * q := fun x => by rw [Int.mul_assoc, e, Int.mul_assoc]
  cases d with
  | pour a b =>
    simp only [D.sc, D.act, at0_mul, ec]
    rw [← Int.sub_mul, min_mul hq]
    unfold mulL
    rw [List.map_set, List.map_set, Int.sub_mul, Int.add_mul]
  | put a k =>
    simp only [D.sc, D.act, at0_mul, ec]
    rw [← Int.add_mul, min_mul hq]
    unfold mulL
    rw [List.map_set]
  | draw a k =>
    simp only [D.sc, D.act, at0_mul, ec]
    rw [← Int.sub_mul, max_mul hq]
    unfold mulL
    rw [List.map_set]
  | change a b =>
    simp only [D.sc, D.act, at0_mul]
    unfold mulL
    rw [List.map_set, List.map_set]
theorem run_sc {m p p' q : Int} (e : m * p' = p * q) (hq : 0 < q) {caps : List Int} : ∀ {ds : List D} {st : List Int}, run (mulL m caps) p' (ds.map (D.sc m)) (mulL q st) = mulL q (run caps p ds st)
  | [], _ => rfl
  | d :: ds, st => by
    show run (mulL m caps) p' (ds.map (D.sc m)) ((d.sc m).act (mulL m caps) p' (mulL q st)) = mulL q (run caps p ds (d.act caps p st))
    rw [act_sc e hq]
    exact run_sc e hq
theorem runs_sc {m p p' q : Int} (e : m * p' = p * q) (hq : 0 < q) {caps : List Int} {ds : List D} : ∀ {n : Nat} {st : List Int}, runs (mulL m caps) p' (ds.map (D.sc m)) n (mulL q st) = mulL q (runs caps p ds n st)
  | 0, _ => rfl
  | n + 1, st => by
    show run (mulL m caps) p' (ds.map (D.sc m)) (runs (mulL m caps) p' (ds.map (D.sc m)) n (mulL q st)) = mulL q (run caps p ds (runs caps p ds n st))
    rw [runs_sc e hq, run_sc e hq]
theorem mulL_one (l : List Int) : mulL 1 l = l := by
  unfold mulL
  simp
theorem sc_one (ds : List D) : ds.map (D.sc 1) = ds := by
  have : D.sc 1 = id := by
    funext d
    cases d <;> simp [D.sc]
  rw [this, List.map_id]
theorem runs_fine {p q : Int} (hq : 0 < q) {caps st : List Int} {ds : List D} {n : Nat} : runs caps (p * q) ds n (mulL q st) = mulL q (runs caps p ds n st) := by
  have := @runs_sc 1 p (p * q) q (by rw [Int.one_mul]) hq caps ds n st
  rw [mulL_one, sc_one] at this
  exact this
theorem runs_wide {p q : Int} (hq : 0 < q) {caps st : List Int} {ds : List D} {n : Nat} : runs (mulL q caps) p (ds.map (D.sc q)) n (mulL q st) = mulL q (runs caps p ds n st) :=
  runs_sc (Int.mul_comm q p) hq
theorem runs_grain {p : Int} {caps st : List Int} {ds : List D} {n : Nat} : runs (mulL p caps) 1 (ds.map (D.sc p)) n st = runs caps p ds n st := by
  have := @runs_sc p p 1 1 rfl (by decide) caps ds n st
  rw [mulL_one, mulL_one] at this
  exact this
theorem stand_fine {caps st : List Int} {p q : Int} (hq : 0 < q) (h : Stand caps p st) : Stand caps (p * q) (mulL q st) := by
  refine ⟨by unfold mulL; rw [List.length_map, h.len], fun i hi => ?_, fun i hi => ?_⟩
  · rw [at0_mul]
    exact Int.mul_nonneg (h.lo i hi) (Int.le_of_lt hq)
  · rw [at0_mul, ← Int.mul_assoc]
    exact Int.mul_le_mul_of_nonneg_right (h.hi i hi) (Int.le_of_lt hq)
theorem stand_wide {caps st : List Int} {p q : Int} (hq : 0 < q) (h : Stand caps p st) : Stand (mulL q caps) p (mulL q st) := by
  have ll : (mulL q caps).length = caps.length := by unfold mulL; rw [List.length_map]
  refine ⟨by rw [ll]; unfold mulL; rw [List.length_map, h.len], fun i hi => ?_, fun i hi => ?_⟩
  · rw [at0_mul]
    exact Int.mul_nonneg (h.lo i (by omega)) (Int.le_of_lt hq)
  · rw [at0_mul, at0_mul, Int.mul_assoc, Int.mul_comm q p, ← Int.mul_assoc]
    exact Int.mul_le_mul_of_nonneg_right (h.hi i (by omega)) (Int.le_of_lt hq)
theorem stand_grain {caps st : List Int} {p : Int} (h : Stand caps p st) : Stand (mulL p caps) 1 st := by
  have ll : (mulL p caps).length = caps.length := by unfold mulL; rw [List.length_map]
  refine ⟨by rw [ll, h.len], fun i hi => h.lo i (by omega), fun i hi => ?_⟩
  rw [at0_mul, Int.mul_one]
  exact h.hi i (by omega)
theorem caps_mul {caps : List Int} {q : Int} (h : Caps caps) (h12 : ∀ i, i < caps.length → at0 caps i ≤ 12) (q1 : 1 ≤ q) (q2 : q ≤ 70000000000) : Caps (mulL q caps) := by
  have ll : (mulL q caps).length = caps.length := by unfold mulL; rw [List.length_map]
  refine ⟨by rw [ll]; exact h.l1, by rw [ll]; exact h.l6, fun i hi => ?_, fun i hi => ?_⟩
  · rw [at0_mul]
    have := Int.mul_le_mul (h.lo i (by omega)) q1 (by decide) (by have := h.lo i (by omega); omega)
    simpa using this
  · rw [at0_mul]
    have := Int.mul_le_mul (h12 i (by omega)) q2 (by omega) (by decide)
    omega
end Kp

namespace Kp
/-- nowhere more -/
def Below (x y : List Int) : Prop := x.length = y.length ∧ ∀ i, i < x.length → at0 x i ≤ at0 y i
theorem act_below {caps x y : List Int} {p : Int} {d : D} (hp : 1 ≤ p) (hx : Stand caps p x) (hy : Stand caps p y) (ok : d.ok caps) (h : Below x y) : Below (d.act caps p x) (d.act caps p y) := by
  have lx := hx.len
  have ly := hy.len
  refine ⟨by rw [act_len, act_len, lx, ly], fun i hi => ?_⟩
  rw [act_len] at hi
  have hi0 := h.2 i hi
  cases d with
  | pour a b =>
    obtain ⟨ha, hb, hab⟩ := ok
    have a0 := h.2 a (by omega)
    have b0 := h.2 b (by omega)
    have xa := hx.hi b hb
    have ya := hy.hi b hb
    simp only [D.act]
    rw [at0_set (by rw [List.length_set]; omega), at0_set (by omega), at0_set (by rw [List.length_set]; omega), at0_set (by omega)]
    by_cases e1 : b = i
    · subst e1
      rw [if_pos rfl, if_pos rfl]
      split <;> split <;> omega
    · rw [if_neg e1, if_neg e1]
      by_cases e2 : a = i
      · subst e2
        rw [if_pos rfl, if_pos rfl]
        split <;> split <;> omega
      · rw [if_neg e2, if_neg e2]
        exact hi0
  | put a k =>
    obtain ⟨ha, hk, _⟩ := ok
    have a0 := h.2 a (by omega)
    simp only [D.act]
    rw [at0_set (by omega), at0_set (by omega)]
    by_cases e1 : a = i
    · subst e1
      rw [if_pos rfl, if_pos rfl]
      split <;> split <;> omega
    · rw [if_neg e1, if_neg e1]
      exact hi0
  | draw a k =>
    obtain ⟨ha, hk, _⟩ := ok
    have a0 := h.2 a (by omega)
    simp only [D.act]
    rw [at0_set (by omega), at0_set (by omega)]
    by_cases e1 : a = i
    · subst e1
      rw [if_pos rfl, if_pos rfl]
      split <;> split <;> omega
    · rw [if_neg e1, if_neg e1]
      exact hi0
  | change a b =>
    obtain ⟨ha, hb, hab, _⟩ := ok
    have a0 := h.2 a (by omega)
    have b0 := h.2 b (by omega)
    simp only [D.act]
    rw [at0_set (by rw [List.length_set]; omega), at0_set (by omega), at0_set (by rw [List.length_set]; omega), at0_set (by omega)]
    by_cases e1 : b = i
    · rw [if_pos e1, if_pos e1]
      exact a0
    · rw [if_neg e1, if_neg e1]
      by_cases e2 : a = i
      · rw [if_pos e2, if_pos e2]
        exact b0
      · rw [if_neg e2, if_neg e2]
        exact hi0
theorem run_below {caps : List Int} {p : Int} (hp : 1 ≤ p) : ∀ {ds : List D} {x y : List Int}, Stand caps p x → Stand caps p y → (∀ d ∈ ds, d.ok caps) → Below x y → Below (run caps p ds x) (run caps p ds y)
  | [], _, _, _, _, _, h => h
  | d :: ds, x, y, hx, hy, ok, h => by
    have od := ok d (List.mem_cons_self ..)
    exact run_below (ds := ds) (x := d.act caps p x) (y := d.act caps p y) hp (act_stand hp hx od) (act_stand hp hy od) (fun e he => ok e (List.mem_cons_of_mem _ he)) (act_below hp hx hy od h)
/-- the differences, by place -/
def difs (x y : List Int) : List Int := List.zipWith (fun a b => ((b - a).natAbs : Int)) x y
theorem difs_len {x y : List Int} (h : x.length = y.length) : (difs x y).length = x.length := by
  unfold difs
  rw [List.length_zipWith]
  omega
theorem difs_set : ∀ {x y : List Int} {i : Nat} {u v : Int}, difs (x.set i u) (y.set i v) = (difs x y).set i ((v - u).natAbs : Int)
  | [], [], _, _, _ => by simp [difs]
  | [], _ :: _, _, _, _ => by simp [difs]
  | _ :: _, [], _, _, _ => by simp [difs]
  | a :: x, b :: y, 0, u, v => by simp [difs]
  | a :: x, b :: y, i + 1, u, v => by
    have := difs_set (x := x) (y := y) (i := i) (u := u) (v := v)
    simp only [difs] at this
    simp [difs, this]
theorem difs_at {x y : List Int} {i : Nat} (hx : i < x.length) (hy : i < y.length) : at0 (difs x y) i = ((at0 y i - at0 x i).natAbs : Int) := by
  refine at0_of ?_
  unfold difs
  rw [List.getElem?_zipWith, at0_get hx, at0_get hy]
def apart (x y : List Int) : Int := (difs x y).sum
theorem apart_set {x y : List Int} {i : Nat} {u v : Int} (e : x.length = y.length) (h : i < x.length) : apart (x.set i u) (y.set i v) = apart x y - ((at0 y i - at0 x i).natAbs : Int) + ((v - u).natAbs : Int) := by
  unfold apart
  rw [difs_set, sum_set (by rw [difs_len e]; exact h), difs_at h (by omega)]
theorem act_apart {caps x y : List Int} {p : Int} {d : D} (hx : Stand caps p x) (hy : Stand caps p y) (ok : d.ok caps) : apart (d.act caps p x) (d.act caps p y) ≤ apart x y := by
  have lx := hx.len
  have ly := hy.len
  have e : x.length = y.length := by omega
  cases d with
  | pour a b =>
    obtain ⟨ha, hb, hab⟩ := ok
    have xa := hx.hi b hb
    have ya := hy.hi b hb
    have xl := hx.lo a ha
    have yl := hy.lo a ha
    simp only [D.act]
    rw [apart_set (by rw [List.length_set, List.length_set]; exact e) (by rw [List.length_set]; omega), apart_set e (by omega), at0_set (by omega), at0_set (by omega), if_neg hab, if_neg hab]
    split <;> split <;> omega
  | put a k =>
    obtain ⟨ha, hk, _⟩ := ok
    have xh := hx.hi a ha
    have yh := hy.hi a ha
    simp only [D.act]
    rw [apart_set e (by omega)]
    split <;> split <;> omega
  | draw a k =>
    obtain ⟨ha, hk, _⟩ := ok
    have xh := hx.lo a ha
    have yh := hy.lo a ha
    simp only [D.act]
    rw [apart_set e (by omega)]
    split <;> split <;> omega
  | change a b =>
    obtain ⟨ha, hb, hab, _⟩ := ok
    simp only [D.act]
    rw [apart_set (by rw [List.length_set, List.length_set]; exact e) (by rw [List.length_set]; omega), apart_set e (by omega), at0_set (by omega), at0_set (by omega), if_neg hab, if_neg hab]
    omega
theorem run_apart {caps : List Int} {p : Int} (hp : 1 ≤ p) : ∀ {ds : List D} {x y : List Int}, Stand caps p x → Stand caps p y → (∀ d ∈ ds, d.ok caps) → apart (run caps p ds x) (run caps p ds y) ≤ apart x y
  | [], _, _, _, _, _ => Int.le_refl _
  | d :: ds, x, y, hx, hy, ok => by
    have od := ok d (List.mem_cons_self ..)
    exact Int.le_trans (run_apart (ds := ds) (x := d.act caps p x) (y := d.act caps p y) hp (act_stand hp hx od) (act_stand hp hy od) (fun e he => ok e (List.mem_cons_of_mem _ he))) (act_apart hx hy od)
/-- the law's own step -/
def stepW (caps : List Int) (p : Int) (st : List Int) : D → List Int
  | .change a b => (st.set a (at0 st b)).set b (at0 st a)
  | .pour a b =>
    let m := if at0 caps b * p < at0 st a + at0 st b then at0 caps b * p else at0 st a + at0 st b
    (st.set b m).set a (at0 st a + at0 st b - at0 (st.set b m) b)
  | .put a k => st.set a (if at0 st a + k * p < at0 caps a * p then at0 st a + k * p else at0 caps a * p)
  | .draw a k => st.set a (if at0 st a - k * p > 0 then at0 st a - k * p else 0)
theorem stepW_act {caps st : List Int} {p : Int} {d : D} (hl : st.length = caps.length) (ok : d.ok caps) : stepW caps p st d = d.act caps p st := by
  cases d with
  | pour a b =>
    obtain ⟨ha, hb, hab⟩ := ok
    simp only [stepW, D.act]
    refine ext0 (by simp) fun i hi => ?_
    have q : at0 (st.set b (if at0 caps b * p < at0 st a + at0 st b then at0 caps b * p else at0 st a + at0 st b)) b = (if at0 caps b * p < at0 st a + at0 st b then at0 caps b * p else at0 st a + at0 st b) := by
      rw [at0_set (by omega), if_pos rfl]
    rw [q, at0_set (by rw [List.length_set]; omega), at0_set (by omega), at0_set (by rw [List.length_set]; omega), at0_set (by omega)]
    by_cases e1 : b = i
    · subst e1
      rw [if_neg hab, if_pos rfl, if_pos rfl]
      split <;> split <;> omega
    · rw [if_neg e1, if_neg e1]
      by_cases e2 : a = i
      · rw [if_pos e2, if_pos e2]
        split <;> split <;> omega
      · rw [if_neg e2, if_neg e2]
  | put a k =>
    simp only [stepW, D.act]
    congr 1
    split <;> split <;> omega
  | draw a k =>
    simp only [stepW, D.act]
    congr 1
    split <;> split <;> omega
  | change a b => rfl
end Kp

/-! Kp: what a tree's ways tell of a start. No Python here. -/
namespace Kp
theorem sum_perm : ∀ {l m : List Int}, l.Perm m → l.sum = m.sum := by
  intro l m p
  induction p with
  | nil => rfl
  | cons x _ ih => rw [List.sum_cons, List.sum_cons, ih]
  | swap x y l => rw [List.sum_cons, List.sum_cons, List.sum_cons, List.sum_cons]; omega
  | trans _ _ h1 h2 => rw [h1, h2]
/-- what the jars of a group hold -/
def gsum (st : List Int) (g : List Int) : Int := (g.map fun j => at0 st j.toNat).sum
theorem gsum_perm {st g h : List Int} (p : g.Perm h) : gsum st g = gsum st h := sum_perm (p.map _)
theorem gsum_app {st g h : List Int} : gsum st (g ++ h) = gsum st g + gsum st h := by
  unfold gsum
  rw [List.map_append, List.sum_append]
theorem gsum_srt {st g : List Int} : gsum st (srtI g) = gsum st g := gsum_perm (srtI_perm g)
def valS (p : Int) (st : List Int) (s : Sh) : Int := gsum st s.g + s.more * p
def cur (p : Int) (st : List Int) (l : List Sh) : List Int := l.map (valS p st)
structure Fits (p : Int) (st : List Int) (s : Sh) : Prop where
  lo : s.low * p ≤ gsum st s.g
  hi : gsum st s.g ≤ s.high * p
def FitL (p : Int) (st : List Int) (l : List Sh) : Prop := ∀ i, i < l.length → Fits p st (atS l i)
theorem cur_at {p : Int} {st : List Int} {l : List Sh} {i : Nat} (h : i < l.length) : at0 (cur p st l) i = valS p st (atS l i) := by
  refine at0_of ?_
  unfold cur
  rw [List.getElem?_map, atS_get h]
  rfl
theorem cur_len {p : Int} {st : List Int} {l : List Sh} : (cur p st l).length = l.length := by simp [cur]
theorem cur_set {p : Int} {st : List Int} {l : List Sh} {i : Nat} {s : Sh} : cur p st (l.set i s) = (cur p st l).set i (valS p st s) := by
  unfold cur
  rw [List.map_set]
theorem val_none {p : Int} {st : List Int} {m : Int} : valS p st (Sh.none m) = m * p := by
  show 0 + m * p = m * p
  omega
theorem fits_none {p : Int} {st : List Int} {m : Int} : Fits p st (Sh.none m) := ⟨by show 0 * p ≤ 0; omega, by show 0 ≤ 0 * p; omega⟩
theorem val_tog {p : Int} {st : List Int} {s t : Sh} : valS p st (s.tog t) = valS p st s + valS p st t := by
  show gsum st (srtI (s.g ++ t.g)) + (s.more + t.more) * p = (gsum st s.g + s.more * p) + (gsum st t.g + t.more * p)
  rw [gsum_srt, gsum_app, Int.add_mul]
  omega
theorem fits_tog {p : Int} {st : List Int} {s t : Sh} (h : Fits p st s) (k : Fits p st t) : Fits p st (s.tog t) := by
  have h1 := h.lo
  have h2 := h.hi
  have k1 := k.lo
  have k2 := k.hi
  refine ⟨?_, ?_⟩
  · show (s.low + t.low) * p ≤ gsum st (srtI (s.g ++ t.g))
    rw [gsum_srt, gsum_app, Int.add_mul]
    omega
  · show gsum st (srtI (s.g ++ t.g)) ≤ (s.high + t.high) * p
    rw [gsum_srt, gsum_app, Int.add_mul]
    omega
theorem val_most {p : Int} {st : List Int} {s : Sh} {l a : Int} : valS p st (s.atMost l a) = valS p st s + a * p := by
  show gsum st s.g + (s.more + a) * p = gsum st s.g + s.more * p + a * p
  rw [Int.add_mul]
  omega
theorem val_least {p : Int} {st : List Int} {s : Sh} {l a : Int} : valS p st (s.atLeast l a) = valS p st s + a * p := by
  show gsum st s.g + (s.more + a) * p = gsum st s.g + s.more * p + a * p
  rw [Int.add_mul]
  omega
theorem fits_most {p : Int} {st : List Int} {s : Sh} {l a : Int} (h : Fits p st s) (k : gsum st s.g ≤ l * p) : Fits p st (s.atMost l a) := by
  refine ⟨h.lo, ?_⟩
  show gsum st s.g ≤ (if l < s.high then l else s.high) * p
  split
  · exact k
  · exact h.hi
theorem fits_least {p : Int} {st : List Int} {s : Sh} {l a : Int} (h : Fits p st s) (k : l * p ≤ gsum st s.g) : Fits p st (s.atLeast l a) := by
  refine ⟨?_, h.hi⟩
  show (if l > s.low then l else s.low) * p ≤ gsum st s.g
  split
  · exact k
  · exact h.lo
theorem fit_set {p : Int} {st : List Int} {l : List Sh} {i : Nat} {s : Sh} (h : FitL p st l) (k : Fits p st s) : FitL p st (l.set i s) := fun j hj => by
  rw [List.length_set] at hj
  by_cases e : i = j
  · subst e
    rw [atS_set hj, if_pos rfl]
    exact k
  · have : atS (l.set i s) j = atS l j := by
      unfold atS
      rw [List.getD_eq_getElem?_getD, List.getD_eq_getElem?_getD, List.getElem?_set, if_neg e]
    rw [this]
    exact h j hj
theorem fits_share {caps : List Int} {p : Int} {st : List Int} {l : List Sh} {d : D} (h : FitL p st l) (hl : l.length = caps.length) (ok : d.ok caps) : Fits p st (d.share l) := by
  cases d with
  | pour a b => exact fits_tog (h a (by have := ok.1; omega)) (h b (by have := ok.2.1; omega))
  | put a k => exact h a (by have := ok.1; omega)
  | draw a k => exact h a (by have := ok.1; omega)
  | change a k => exact h a (by have := ok.1; omega)
/-- the first way is right where the sum is at most the limit -/
theorem way1_right {caps : List Int} {p : Int} {st : List Int} {l : List Sh} {d : D} (h : FitL p st l) (hl : l.length = caps.length) (ok : d.ok caps) (nc : d.ischange = false) (k : gsum st (d.share l).g ≤ d.limit caps l * p) :
    FitL p st (d.way1 caps l) ∧ cur p st (d.way1 caps l) = d.act caps p (cur p st l) := by
  have fs := fits_share h hl ok
  cases d with
  | pour a b =>
    obtain ⟨h1, h2, h3⟩ := ok
    refine ⟨fit_set (fit_set h fits_none) (fits_most fs k), ?_⟩
    have ea := cur_at (p := p) (st := st) (l := l) (i := a) (by omega)
    have eb := cur_at (p := p) (st := st) (l := l) (i := b) (by omega)
    have vt := val_tog (p := p) (st := st) (s := atS l a) (t := atS l b)
    have k' : gsum st (((atS l a).tog (atS l b)).g) ≤ (at0 caps b - ((atS l a).tog (atS l b)).more) * p := k
    rw [Int.sub_mul] at k'
    have v0 : valS p st ((atS l a).tog (atS l b)) = gsum st (((atS l a).tog (atS l b)).g) + ((atS l a).tog (atS l b)).more * p := rfl
    show cur p st ((l.set a (Sh.none 0)).set b (((atS l a).tog (atS l b)).atMost _ 0)) = _
    rw [cur_set, cur_set, val_none, val_most]
    simp only [D.act]
    rw [ea, eb, vt, if_neg (by omega)]
    have x1 : valS p st (atS l a) - valS p st (atS l a) = 0 * p := by omega
    have x2 : valS p st (atS l b) + valS p st (atS l a) = valS p st (atS l a) + valS p st (atS l b) + 0 * p := by omega
    rw [x1, x2]
  | put a n =>
    refine ⟨fit_set h (fits_most fs k), ?_⟩
    have ea := cur_at (p := p) (st := st) (l := l) (i := a) (by have := ok.1; omega)
    have k' : gsum st (atS l a).g ≤ (at0 caps a - (atS l a).more - n) * p := k
    rw [Int.sub_mul, Int.sub_mul] at k'
    have v0 : valS p st (atS l a) = gsum st (atS l a).g + (atS l a).more * p := rfl
    show cur p st (l.set a ((atS l a).atMost _ n)) = _
    rw [cur_set, val_most]
    simp only [D.act]
    rw [if_neg (by omega), ea]
  | draw a n =>
    refine ⟨fit_set h fits_none, ?_⟩
    have ea := cur_at (p := p) (st := st) (l := l) (i := a) (by have := ok.1; omega)
    have k' : gsum st (atS l a).g ≤ (n - (atS l a).more) * p := k
    rw [Int.sub_mul] at k'
    have v0 : valS p st (atS l a) = gsum st (atS l a).g + (atS l a).more * p := rfl
    show cur p st (l.set a (Sh.none 0)) = _
    rw [cur_set, val_none]
    simp only [D.act]
    congr 1
    split <;> omega
  | change a n => cases nc
theorem way2_right {caps : List Int} {p : Int} {st : List Int} {l : List Sh} {d : D} (h : FitL p st l) (hl : l.length = caps.length) (ok : d.ok caps) (nc : d.ischange = false) (k : d.limit caps l * p ≤ gsum st (d.share l).g) :
    FitL p st (d.way2 caps l) ∧ cur p st (d.way2 caps l) = d.act caps p (cur p st l) := by
  have fs := fits_share h hl ok
  cases d with
  | pour a b =>
    obtain ⟨h1, h2, h3⟩ := ok
    refine ⟨fit_set (fit_set h (fits_least fs k)) fits_none, ?_⟩
    have ea := cur_at (p := p) (st := st) (l := l) (i := a) (by omega)
    have eb := cur_at (p := p) (st := st) (l := l) (i := b) (by omega)
    have vt := val_tog (p := p) (st := st) (s := atS l a) (t := atS l b)
    have k' : (at0 caps b - ((atS l a).tog (atS l b)).more) * p ≤ gsum st (((atS l a).tog (atS l b)).g) := k
    rw [Int.sub_mul] at k'
    have v0 : valS p st ((atS l a).tog (atS l b)) = gsum st (((atS l a).tog (atS l b)).g) + ((atS l a).tog (atS l b)).more * p := rfl
    show cur p st ((l.set a (((atS l a).tog (atS l b)).atLeast _ (-(at0 caps b)))).set b (Sh.none (at0 caps b))) = _
    rw [cur_set, cur_set, val_none, val_least, Int.neg_mul]
    simp only [D.act]
    rw [ea, eb, vt]
    congr 2
    · split <;> omega
    · split <;> omega
  | put a n =>
    refine ⟨fit_set h fits_none, ?_⟩
    have ea := cur_at (p := p) (st := st) (l := l) (i := a) (by have := ok.1; omega)
    have k' : (at0 caps a - (atS l a).more - n) * p ≤ gsum st (atS l a).g := k
    rw [Int.sub_mul, Int.sub_mul] at k'
    have v0 : valS p st (atS l a) = gsum st (atS l a).g + (atS l a).more * p := rfl
    show cur p st (l.set a (Sh.none (at0 caps a))) = _
    rw [cur_set, val_none]
    simp only [D.act]
    congr 1
    split <;> omega
  | draw a n =>
    refine ⟨fit_set h (fits_least fs k), ?_⟩
    have ea := cur_at (p := p) (st := st) (l := l) (i := a) (by have := ok.1; omega)
    have k' : (n - (atS l a).more) * p ≤ gsum st (atS l a).g := k
    rw [Int.sub_mul] at k'
    have v0 : valS p st (atS l a) = gsum st (atS l a).g + (atS l a).more * p := rfl
    show cur p st (l.set a ((atS l a).atLeast _ (-n))) = _
    rw [cur_set, val_least, Int.neg_mul]
    simp only [D.act]
    rw [ea]
    congr 1
    split <;> omega
  | change a n => cases nc
theorem change_right {caps : List Int} {p : Int} {st : List Int} {l : List Sh} {a b : Nat} (h : FitL p st l) (hl : l.length = caps.length) (ha : a < caps.length) (hb : b < caps.length) :
    FitL p st ((D.change a b).only caps l) ∧ cur p st ((D.change a b).only caps l) = (D.change a b).act caps p (cur p st l) := by
  refine ⟨fit_set (fit_set h (h b (by omega))) (h a (by omega)), ?_⟩
  show cur p st ((l.set a (atS l b)).set b (atS l a)) = _
  rw [cur_set, cur_set]
  simp only [D.act]
  rw [cur_at (by omega), cur_at (by omega)]
theorem mul_le {x y p : Int} (hp : 1 ≤ p) (h : x ≤ y) : x * p ≤ y * p := Int.mul_le_mul_of_nonneg_right h (by omega)
theorem only_right {caps : List Int} {p : Int} (hp : 1 ≤ p) {st : List Int} {l : List Sh} {d : D} (h : FitL p st l) (hl : l.length = caps.length) (ok : d.ok caps) (ch : d.choice caps l = false) :
    FitL p st (d.only caps l) ∧ cur p st (d.only caps l) = d.act caps p (cur p st l) := by
  have fs := fits_share h hl ok
  by_cases nc : d.ischange = false
  · have eo : d.only caps l = if (d.share l).high ≤ d.limit caps l then d.way1 caps l else d.way2 caps l := by cases d <;> first | rfl | cases nc
    have nch : ¬ ((d.share l).low < d.limit caps l ∧ d.limit caps l < (d.share l).high) := fun z => by
      unfold D.choice at ch
      rw [nc, decide_eq_true z.1, decide_eq_true z.2] at ch
      cases ch
    rw [eo]
    by_cases c : (d.share l).high ≤ d.limit caps l
    · rw [if_pos c]
      exact way1_right h hl ok nc (Int.le_trans fs.hi (mul_le hp c))
    · rw [if_neg c]
      exact way2_right h hl ok nc (Int.le_trans (mul_le hp (by omega)) fs.lo)
  · cases d with
    | change a b => exact change_right h hl ok.1 ok.2.1
    | pour a b => exact absurd rfl nc
    | put a b => exact absurd rfl nc
    | draw a b => exact absurd rfl nc
/-! ### bounds that are kept -/
def Bd.keep (p : Int) (st : List Int) : Bd → Prop
  | .most g n => gsum st g ≤ n * p
  | .least g n => n * p ≤ gsum st g
  | .apart _ _ _ => True
def Keeps (p : Int) (st : List Int) (bs : List Bd) : Prop := ∀ b ∈ bs, b.keep p st
def evS (p : Int) (st : List Int) (ss : List (List Int × Int)) : List Int := ss.map fun q => gsum st q.1 + q.2 * p
theorem ways_pre : ∀ {t : Tr} {bs : List Bd} {w : List Bd × List (List Int × Int)}, w ∈ waysB bs t → ∃ e, w.1 = bs ++ e
  | .leaf ss, bs, w, h => by
    obtain rfl := List.mem_singleton.mp h
    exact ⟨[], (List.append_nil _).symm⟩
  | .test _ g l a b, bs, w, h => by
    rcases List.mem_append.mp h with h | h
    · obtain ⟨e, he⟩ := ways_pre h
      exact ⟨_, by rw [he, List.append_assoc]⟩
    · obtain ⟨e, he⟩ := ways_pre h
      exact ⟨_, by rw [he, List.append_assoc]⟩
theorem way_lens {caps : List Int} {l : List Sh} {d : D} : (d.way1 caps l).length = l.length ∧ (d.way2 caps l).length = l.length ∧ (d.only caps l).length = l.length := by
  cases d
  · refine ⟨by simp [D.way1], by simp [D.way2], ?_⟩
    simp only [D.only]
    split <;> simp [D.way1, D.way2]
  · refine ⟨by simp [D.way1], by simp [D.way2], ?_⟩
    simp only [D.only]
    split <;> simp [D.way1, D.way2]
  · refine ⟨by simp [D.way1], by simp [D.way2], ?_⟩
    simp only [D.only]
    split <;> simp [D.way1, D.way2]
  · exact ⟨by simp [D.way1], by simp [D.way2], by simp [D.only]⟩
theorem choice_nc {caps : List Int} {l : List Sh} {d : D} (ch : d.choice caps l = true) : d.ischange = false := by
  cases d <;> first | rfl | (exfalso; revert ch; simp [D.choice, D.ischange])
/-- each way whose bounds a start keeps tells what comes of it -/
theorem kept_run {caps : List Int} {p : Int} (hp : 1 ≤ p) {st : List Int} : ∀ {ds : List D} {n : Nat} {l : List Sh} {bs : List Bd}, l.length = caps.length → (∀ d ∈ ds, d.ok caps) → (Keeps p st bs → FitL p st l) →
    ∀ w ∈ waysB bs (grow caps n ds l), Keeps p st w.1 → evS p st w.2 = run caps p ds (cur p st l)
  | [], n, l, bs, hl, ok, hf, w, hw, hk => by
    obtain rfl := List.mem_singleton.mp hw
    show ((l.map fun s => (srtI s.g, s.more)).map fun q => gsum st q.1 + q.2 * p) = cur p st l
    rw [List.map_map]
    refine List.map_congr_left fun s _ => ?_
    show gsum st (srtI s.g) + s.more * p = gsum st s.g + s.more * p
    rw [gsum_srt]
  | d :: ds, n, l, bs, hl, ok, hf, w, hw, hk => by
    have okd := ok d (List.mem_cons_self ..)
    have okr : ∀ d ∈ ds, d.ok caps := fun e he => ok e (List.mem_cons_of_mem _ he)
    have er : run caps p (d :: ds) (cur p st l) = run caps p ds (d.act caps p (cur p st l)) := rfl
    have eg : grow caps n (d :: ds) l = if d.choice caps l = true then .test n (srtI (d.share l).g) (d.limit caps l) (grow caps (n + 1) ds (d.way1 caps l)) (grow caps (n + 1) ds (d.way2 caps l)) else grow caps (n + 1) ds (d.only caps l) := rfl
    rw [eg] at hw
    rw [er]
    cases ch : d.choice caps l with
    | true =>
      have nc := choice_nc ch
      rw [if_pos ch] at hw
      have kp : ∀ b, Keeps p st (bs ++ [b]) → Keeps p st bs ∧ b.keep p st := fun b h => ⟨fun c hc => h c (List.mem_append_left _ hc), h b (by simp)⟩
      rcases List.mem_append.mp hw with hw | hw
      · obtain ⟨e, he⟩ := ways_pre hw
        have hb := kp _ (fun c hc => hk c (by rw [he]; exact List.mem_append_left _ hc))
        have kk : gsum st (srtI (d.share l).g) ≤ d.limit caps l * p := hb.2
        rw [gsum_srt] at kk
        have r := way1_right (hf hb.1) hl okd nc kk
        rw [← r.2]
        exact kept_run hp (by rw [way_lens.1, hl]) okr (fun _ => r.1) w hw hk
      · obtain ⟨e, he⟩ := ways_pre hw
        have hb := kp _ (fun c hc => hk c (by rw [he]; exact List.mem_append_left _ hc))
        have kk : d.limit caps l * p ≤ gsum st (srtI (d.share l).g) := hb.2
        rw [gsum_srt] at kk
        have r := way2_right (hf hb.1) hl okd nc kk
        rw [← r.2]
        exact kept_run hp (by rw [way_lens.2.1, hl]) okr (fun _ => r.1) w hw hk
    | false =>
      rw [ch, if_neg Bool.false_ne_true] at hw
      obtain ⟨e, he⟩ := ways_pre hw
      have hb : Keeps p st bs := fun c hc => hk c (by rw [he]; exact List.mem_append_left _ hc)
      have r := only_right hp (hf hb) hl okd ch
      rw [← r.2]
      exact kept_run hp (by rw [way_lens.2.2, hl]) okr (fun _ => r.1) w hw hk
/-- each start keeps the bounds of some way -/
theorem kept_some {caps : List Int} {p : Int} (hp : 1 ≤ p) {st : List Int} : ∀ {ds : List D} {n : Nat} {l : List Sh} {bs : List Bd}, l.length = caps.length → (∀ d ∈ ds, d.ok caps) → Keeps p st bs → FitL p st l →
    ∃ w ∈ waysB bs (grow caps n ds l), Keeps p st w.1
  | [], n, l, bs, hl, ok, hk, hf => ⟨_, List.mem_singleton.mpr rfl, hk⟩
  | d :: ds, n, l, bs, hl, ok, hk, hf => by
    have okd := ok d (List.mem_cons_self ..)
    have okr : ∀ d ∈ ds, d.ok caps := fun e he => ok e (List.mem_cons_of_mem _ he)
    have eg : grow caps n (d :: ds) l = if d.choice caps l = true then .test n (srtI (d.share l).g) (d.limit caps l) (grow caps (n + 1) ds (d.way1 caps l)) (grow caps (n + 1) ds (d.way2 caps l)) else grow caps (n + 1) ds (d.only caps l) := rfl
    rw [eg]
    cases ch : d.choice caps l with
    | true =>
      have nc := choice_nc ch
      rw [if_pos rfl]
      have kp : ∀ b : Bd, b.keep p st → Keeps p st (bs ++ [b]) := fun b h c hc => by
        rcases List.mem_append.mp hc with z | z
        · exact hk c z
        · obtain rfl := List.mem_singleton.mp z
          exact h
      by_cases c : gsum st (d.share l).g ≤ d.limit caps l * p
      · have r := way1_right hf hl okd nc c
        obtain ⟨w, hw, h⟩ := kept_some hp (n := n + 1) (by rw [way_lens.1, hl]) okr (kp (.most (srtI (d.share l).g) (d.limit caps l)) (by show gsum st (srtI _) ≤ _; rw [gsum_srt]; exact c)) r.1
        exact ⟨w, List.mem_append_left _ hw, h⟩
      · have r := way2_right hf hl okd nc (by omega)
        obtain ⟨w, hw, h⟩ := kept_some hp (n := n + 1) (by rw [way_lens.2.1, hl]) okr (kp (.least (srtI (d.share l).g) (d.limit caps l)) (by show _ ≤ gsum st (srtI _); rw [gsum_srt]; omega)) r.1
        exact ⟨w, List.mem_append_right _ hw, h⟩
    | false =>
      rw [if_neg Bool.false_ne_true]
      have r := only_right hp hf hl okd ch
      exact kept_some hp (by rw [way_lens.2.2, hl]) okr hk r.1
theorem first_at {caps : List Int} {i : Nat} (hi : i < caps.length) : atS (firstShares caps) i = ⟨[(i : Int)], 0, 0, at0 caps i⟩ := atS_of (by unfold firstShares; rw [List.getElem?_map, List.getElem?_range hi]; rfl)
theorem gsum_one {st : List Int} {i : Nat} : gsum st [(i : Int)] = at0 st i := by
  show at0 st ((i : Int)).toNat + 0 = at0 st i
  rw [Int.toNat_natCast]
  omega
theorem first_fit {caps st : List Int} {p : Int} (h : Stand caps p st) : FitL p st (firstShares caps) := fun i hi => by
  rw [firstShares_len] at hi
  rw [first_at hi]
  refine ⟨?_, ?_⟩
  · show 0 * p ≤ gsum st [(i : Int)]
    rw [gsum_one]
    have := h.lo i hi
    omega
  · show gsum st [(i : Int)] ≤ at0 caps i * p
    rw [gsum_one]
    exact h.hi i hi
theorem first_cur {caps st : List Int} {p : Int} (h : st.length = caps.length) : cur p st (firstShares caps) = st := by
  refine ext0 (by rw [cur_len, firstShares_len, h]) fun i hi => ?_
  rw [cur_len, firstShares_len] at hi
  rw [cur_at (by rw [firstShares_len]; exact hi), first_at hi]
  show gsum st [(i : Int)] + 0 * p = _
  rw [gsum_one]
  omega
theorem box_keeps {caps st : List Int} {p : Int} (h : Stand caps p st) : Keeps p st (boxOf caps) := fun b hb => by
  unfold boxOf at hb
  obtain ⟨i, hi, hb⟩ := List.mem_flatMap.mp hb
  have hi : i < caps.length := by simpa using hi
  rcases List.mem_cons.mp hb with e | e
  · subst e
    show 0 * p ≤ gsum st [(i : Int)]
    rw [gsum_one]
    have := h.lo i hi
    omega
  · obtain rfl := List.mem_singleton.mp e
    show gsum st [(i : Int)] ≤ at0 caps i * p
    rw [gsum_one]
    exact h.hi i hi
theorem ways_run {caps st : List Int} {p : Int} {ds : List D} (hp : 1 ≤ p) (h : Stand caps p st) (ok : ∀ d ∈ ds, d.ok caps) : ∀ w ∈ waysOf caps (treeOf caps ds), Keeps p st w.1 → evS p st w.2 = run caps p ds st := fun w hw hk => by
  have := kept_run hp (n := 0) (firstShares_len caps) ok (fun _ => first_fit h) w hw hk
  rw [first_cur h.len] at this
  exact this
theorem ways_some {caps st : List Int} {p : Int} {ds : List D} (hp : 1 ≤ p) (h : Stand caps p st) (ok : ∀ d ∈ ds, d.ok caps) : ∃ w ∈ waysOf caps (treeOf caps ds), Keeps p st w.1 :=
  kept_some hp (firstShares_len caps) ok (box_keeps h) (first_fit h)
/-! ### a house so many times as large -/
def Sh.sc (m : Int) (s : Sh) : Sh := ⟨s.g, s.more * m, s.low * m, s.high * m⟩
def Tr.sc (m : Int) : Tr → Tr
  | .leaf ss => .leaf (ss.map fun q => (q.1, q.2 * m))
  | .test d g l a b => .test d g (l * m) (a.sc m) (b.sc m)
theorem atS_sc {m : Int} {l : List Sh} {i : Nat} : atS (l.map (Sh.sc m)) i = (atS l i).sc m := by
  unfold atS
  rw [List.getD_eq_getElem?_getD, List.getD_eq_getElem?_getD, List.getElem?_map]
  cases l[i]? with
  | none => simp [Sh.sc]
  | some x => rfl
theorem share_sc {m : Int} {l : List Sh} {d : D} : (d.sc m).share (l.map (Sh.sc m)) = (d.share l).sc m := by
  cases d with
  | pour a b =>
    show (atS _ a).tog (atS _ b) = _
    rw [atS_sc, atS_sc]
    show Sh.mk _ _ _ _ = Sh.mk _ _ _ _
    simp only [Sh.sc, Sh.tog, D.share, Int.add_mul]
  | put a k => exact atS_sc
  | draw a k => exact atS_sc
  | change a k => exact atS_sc
theorem limit_sc {m : Int} {caps : List Int} {l : List Sh} {d : D} (nc : d.ischange = false) : (d.sc m).limit (mulL m caps) (l.map (Sh.sc m)) = d.limit caps l * m := by
  have e := share_sc (m := m) (l := l) (d := d)
  cases d with
  | pour a b =>
    show at0 (mulL m caps) b - ((D.sc m (.pour a b)).share (l.map (Sh.sc m))).more = (at0 caps b - _) * m
    rw [e, at0_mul, Int.sub_mul]
    rfl
  | put a k =>
    show at0 (mulL m caps) a - ((D.sc m (.put a k)).share (l.map (Sh.sc m))).more - k * m = (at0 caps a - _ - k) * m
    rw [e, at0_mul, Int.sub_mul, Int.sub_mul]
    rfl
  | draw a k =>
    show k * m - ((D.sc m (.draw a k)).share (l.map (Sh.sc m))).more = (k - _) * m
    rw [e, Int.sub_mul]
    rfl
  | change a k => cases nc
theorem none_sc {m n : Int} : (Sh.none n).sc m = Sh.none (n * m) := by
  simp [Sh.sc, Sh.none]
theorem most_sc {m : Int} (hm : 0 < m) {s : Sh} {l a : Int} : (s.atMost l a).sc m = (s.sc m).atMost (l * m) (a * m) := by
  have e := min_mul (x := l) (y := s.high) hm
  show Sh.mk s.g ((s.more + a) * m) (s.low * m) ((if l < s.high then l else s.high) * m) = Sh.mk s.g (s.more * m + a * m) (s.low * m) (if l * m < s.high * m then l * m else s.high * m)
  rw [Int.add_mul, e]
theorem least_sc {m : Int} (hm : 0 < m) {s : Sh} {l a : Int} : (s.atLeast l a).sc m = (s.sc m).atLeast (l * m) (a * m) := by
  have e : (if l * m > s.low * m then l * m else s.low * m) = (if l > s.low then l else s.low) * m := by
    by_cases c : l > s.low
    · rw [if_pos c, if_pos ((lt_mul hm).mpr c)]
    · rw [if_neg c, if_neg (fun z => c ((lt_mul hm).mp z))]
  show Sh.mk s.g ((s.more + a) * m) ((if l > s.low then l else s.low) * m) (s.high * m) = Sh.mk s.g (s.more * m + a * m) (if l * m > s.low * m then l * m else s.low * m) (s.high * m)
  rw [Int.add_mul, e]
theorem way1_sc {m : Int} (hm : 0 < m) {caps : List Int} {l : List Sh} {d : D} (nc : d.ischange = false) : (d.sc m).way1 (mulL m caps) (l.map (Sh.sc m)) = (d.way1 caps l).map (Sh.sc m) := by
  have e := share_sc (m := m) (l := l) (d := d)
  have el := limit_sc (m := m) (caps := caps) (l := l) nc
  cases d with
  | pour a b =>
    show ((l.map (Sh.sc m)).set a (Sh.none 0)).set b (((D.sc m (.pour a b)).share (l.map (Sh.sc m))).atMost ((D.sc m (.pour a b)).limit (mulL m caps) (l.map (Sh.sc m))) 0) = ((l.set a (Sh.none 0)).set b (((D.pour a b).share l).atMost ((D.pour a b).limit caps l) 0)).map (Sh.sc m)
    rw [e, el, List.map_set, List.map_set, none_sc, most_sc hm, Int.zero_mul]
  | put a k =>
    show (l.map (Sh.sc m)).set a (((D.sc m (.put a k)).share (l.map (Sh.sc m))).atMost ((D.sc m (.put a k)).limit (mulL m caps) (l.map (Sh.sc m))) (k * m)) = (l.set a (((D.put a k).share l).atMost ((D.put a k).limit caps l) k)).map (Sh.sc m)
    rw [e, el, List.map_set, most_sc hm]
  | draw a k =>
    show (l.map (Sh.sc m)).set a (Sh.none 0) = (l.set a (Sh.none 0)).map (Sh.sc m)
    rw [List.map_set, none_sc, Int.zero_mul]
  | change a k => cases nc
theorem way2_sc {m : Int} (hm : 0 < m) {caps : List Int} {l : List Sh} {d : D} (nc : d.ischange = false) : (d.sc m).way2 (mulL m caps) (l.map (Sh.sc m)) = (d.way2 caps l).map (Sh.sc m) := by
  have e := share_sc (m := m) (l := l) (d := d)
  have el := limit_sc (m := m) (caps := caps) (l := l) nc
  cases d with
  | pour a b =>
    show ((l.map (Sh.sc m)).set a (((D.sc m (.pour a b)).share (l.map (Sh.sc m))).atLeast ((D.sc m (.pour a b)).limit (mulL m caps) (l.map (Sh.sc m))) (-(at0 (mulL m caps) b)))).set b (Sh.none (at0 (mulL m caps) b)) = ((l.set a (((D.pour a b).share l).atLeast ((D.pour a b).limit caps l) (-(at0 caps b)))).set b (Sh.none (at0 caps b))).map (Sh.sc m)
    rw [e, el, List.map_set, List.map_set, none_sc, least_sc hm, at0_mul, Int.neg_mul]
  | put a k =>
    show (l.map (Sh.sc m)).set a (Sh.none (at0 (mulL m caps) a)) = (l.set a (Sh.none (at0 caps a))).map (Sh.sc m)
    rw [List.map_set, none_sc, at0_mul]
  | draw a k =>
    show (l.map (Sh.sc m)).set a (((D.sc m (.draw a k)).share (l.map (Sh.sc m))).atLeast ((D.sc m (.draw a k)).limit (mulL m caps) (l.map (Sh.sc m))) (-(k * m))) = (l.set a (((D.draw a k).share l).atLeast ((D.draw a k).limit caps l) (-k))).map (Sh.sc m)
    rw [e, el, List.map_set, least_sc hm, Int.neg_mul]
  | change a k => cases nc
theorem sc_nc {m : Int} {d : D} : (d.sc m).ischange = d.ischange := by cases d <;> rfl
theorem choice_sc {m : Int} (hm : 0 < m) {caps : List Int} {l : List Sh} {d : D} : (d.sc m).choice (mulL m caps) (l.map (Sh.sc m)) = d.choice caps l := by
  unfold D.choice
  rw [sc_nc]
  by_cases nc : d.ischange = false
  · rw [limit_sc nc, share_sc, nc]
    show (true && (decide ((d.share l).low * m < d.limit caps l * m) && decide (d.limit caps l * m < (d.share l).high * m))) = _
    rw [decide_eq_decide.mpr (lt_mul hm), decide_eq_decide.mpr (lt_mul hm)]
    rfl
  · have : d.ischange = true := by revert nc; cases d.ischange <;> simp
    rw [this]
    rfl
theorem only_sc {m : Int} (hm : 0 < m) {caps : List Int} {l : List Sh} {d : D} : (d.sc m).only (mulL m caps) (l.map (Sh.sc m)) = (d.only caps l).map (Sh.sc m) := by
  by_cases nc : d.ischange = false
  · have e1 : d.only caps l = if (d.share l).high ≤ d.limit caps l then d.way1 caps l else d.way2 caps l := by cases d <;> first | rfl | cases nc
    have e2 : (d.sc m).only (mulL m caps) (l.map (Sh.sc m)) = if ((d.sc m).share (l.map (Sh.sc m))).high ≤ (d.sc m).limit (mulL m caps) (l.map (Sh.sc m)) then (d.sc m).way1 (mulL m caps) (l.map (Sh.sc m)) else (d.sc m).way2 (mulL m caps) (l.map (Sh.sc m)) := by cases d <;> first | rfl | cases nc
    rw [e1, e2, limit_sc nc, share_sc, way1_sc hm nc, way2_sc hm nc]
    have c : ((d.share l).sc m).high ≤ d.limit caps l * m ↔ (d.share l).high ≤ d.limit caps l := by
      show (d.share l).high * m ≤ _ ↔ _
      have := lt_mul (x := d.limit caps l) (y := (d.share l).high) hm
      omega
    by_cases k : (d.share l).high ≤ d.limit caps l
    · rw [if_pos k, if_pos (c.mpr k)]
    · rw [if_neg k, if_neg (fun z => k (c.mp z))]
  · cases d with
    | change a b =>
      show ((l.map (Sh.sc m)).set a (atS (l.map (Sh.sc m)) b)).set b (atS (l.map (Sh.sc m)) a) = ((l.set a (atS l b)).set b (atS l a)).map (Sh.sc m)
      rw [atS_sc, atS_sc, List.map_set, List.map_set]
    | pour a b => exact absurd rfl nc
    | put a b => exact absurd rfl nc
    | draw a b => exact absurd rfl nc
theorem grow_sc {m : Int} (hm : 0 < m) {caps : List Int} : ∀ {ds : List D} {n : Nat} {l : List Sh}, grow (mulL m caps) n (ds.map (D.sc m)) (l.map (Sh.sc m)) = (grow caps n ds l).sc m
  | [], n, l => by
    show leafOf (l.map (Sh.sc m)) = (leafOf l).sc m
    unfold leafOf
    show Tr.leaf _ = Tr.leaf _
    rw [List.map_map, List.map_map]
    rfl
  | d :: ds, n, l => by
    have eg : ∀ {caps : List Int} {d : D} {ds : List D} {l : List Sh}, grow caps n (d :: ds) l = if d.choice caps l = true then .test n (srtI (d.share l).g) (d.limit caps l) (grow caps (n + 1) ds (d.way1 caps l)) (grow caps (n + 1) ds (d.way2 caps l)) else grow caps (n + 1) ds (d.only caps l) := rfl
    rw [List.map_cons, eg, eg, choice_sc hm]
    cases ch : d.choice caps l with
    | true =>
      have nc := choice_nc ch
      rw [if_pos rfl, if_pos rfl, limit_sc nc, share_sc, way1_sc hm nc, way2_sc hm nc, grow_sc hm, grow_sc hm]
      rfl
    | false =>
      rw [if_neg Bool.false_ne_true, if_neg Bool.false_ne_true, only_sc hm, grow_sc hm]
theorem first_sc {m : Int} {caps : List Int} : firstShares (mulL m caps) = (firstShares caps).map (Sh.sc m) := by
  have el : (mulL m caps).length = caps.length := by simp [mulL]
  unfold firstShares
  rw [el, List.map_map]
  refine List.map_congr_left fun i _ => ?_
  show Sh.mk _ _ _ _ = Sh.mk _ _ _ _
  rw [at0_mul, Int.zero_mul]
theorem tree_sc {m : Int} (hm : 0 < m) {caps : List Int} {ds : List D} : treeOf (mulL m caps) (ds.map (D.sc m)) = (treeOf caps ds).sc m := by
  unfold treeOf
  rw [first_sc, grow_sc hm]
theorem sc_leaves {m : Int} : ∀ {t : Tr}, (t.sc m).leaves = t.leaves
  | .leaf _ => rfl
  | .test _ _ _ a b => by
    show (a.sc m).leaves + (b.sc m).leaves = a.leaves + b.leaves
    rw [sc_leaves, sc_leaves]
end Kp

/-! Kp: groups of a tree's ways name jars. No Python here. -/
namespace Kp
def GoodG (n : Nat) (g : List Int) : Prop := ∀ j ∈ g, 0 ≤ j ∧ j.toNat < n
theorem good_nil {n : Nat} : GoodG n [] := fun j h => by cases h
theorem good_srt {n : Nat} {g : List Int} (h : GoodG n g) : GoodG n (srtI g) := fun j hj => h j ((srtI_perm g).mem_iff.mp hj)
theorem good_tog {n : Nat} {s t : Sh} (h : GoodG n s.g) (k : GoodG n t.g) : GoodG n (s.tog t).g := good_srt fun j hj => (List.mem_append.mp hj).elim (h j) (k j)
def GoodL (n : Nat) (l : List Sh) : Prop := ∀ i, i < l.length → GoodG n (atS l i).g
theorem goodl_set {n : Nat} {l : List Sh} {i : Nat} {s : Sh} (h : GoodL n l) (k : GoodG n s.g) : GoodL n (l.set i s) := fun j hj => by
  rw [List.length_set] at hj
  by_cases e : i = j
  · subst e
    rw [atS_set hj, if_pos rfl]
    exact k
  · have : atS (l.set i s) j = atS l j := by
      unfold atS
      rw [List.getD_eq_getElem?_getD, List.getD_eq_getElem?_getD, List.getElem?_set, if_neg e]
    rw [this]
    exact h j hj
theorem good_share {caps : List Int} {n : Nat} {l : List Sh} {d : D} (h : GoodL n l) (hl : l.length = caps.length) (ok : d.ok caps) : GoodG n (d.share l).g := by
  cases d with
  | pour a b => exact good_tog (h a (by have := ok.1; omega)) (h b (by have := ok.2.1; omega))
  | put a k => exact h a (by have := ok.1; omega)
  | draw a k => exact h a (by have := ok.1; omega)
  | change a k => exact h a (by have := ok.1; omega)
theorem good_way1 {caps : List Int} {n : Nat} {l : List Sh} {d : D} (h : GoodL n l) (hl : l.length = caps.length) (ok : d.ok caps) : GoodL n (d.way1 caps l) := by
  have g := good_share h hl ok
  cases d with
  | pour a b => exact goodl_set (goodl_set h good_nil) g
  | put a k => exact goodl_set h g
  | draw a k => exact goodl_set h good_nil
  | change a k => exact goodl_set h good_nil
theorem good_way2 {caps : List Int} {n : Nat} {l : List Sh} {d : D} (h : GoodL n l) (hl : l.length = caps.length) (ok : d.ok caps) : GoodL n (d.way2 caps l) := by
  have g := good_share h hl ok
  cases d with
  | pour a b => exact goodl_set (goodl_set h g) good_nil
  | put a k => exact goodl_set h good_nil
  | draw a k => exact goodl_set h g
  | change a k => exact goodl_set h g
theorem good_only {caps : List Int} {n : Nat} {l : List Sh} {d : D} (h : GoodL n l) (hl : l.length = caps.length) (ok : d.ok caps) : GoodL n (d.only caps l) := by
  by_cases nc : d.ischange = false
  · have eo : d.only caps l = if (d.share l).high ≤ d.limit caps l then d.way1 caps l else d.way2 caps l := by cases d <;> first | rfl | cases nc
    rw [eo]
    split
    · exact good_way1 h hl ok
    · exact good_way2 h hl ok
  · cases d with
    | change a b => exact goodl_set (goodl_set h (h b (by have := ok.2.1; omega))) (h a (by have := ok.1; omega))
    | pour a b => exact absurd rfl nc
    | put a b => exact absurd rfl nc
    | draw a b => exact absurd rfl nc
theorem glen_mem : ∀ {l : List Sh} {s : Sh}, s ∈ l → s.g.length ≤ glen l
  | x :: r, s, h => by
    have e : glen (x :: r) = x.g.length + glen r := by unfold glen; rw [List.map_cons, List.sum_cons]
    rcases List.mem_cons.mp h with rfl | h
    · omega
    · have := glen_mem h
      omega
def okT (n : Nat) : Tr → Prop
  | .leaf ss => ss.length ≤ 6 ∧ ∀ q ∈ ss, GoodG n q.1 ∧ q.1.length ≤ 6
  | .test _ g _ a b => GoodG n g ∧ g.length ≤ 6 ∧ okT n a ∧ okT n b
theorem grow_okT {caps : List Int} (c6 : caps.length ≤ 6) : ∀ {ds : List D} {n : Nat} {l : List Sh}, Shs caps l → GoodL caps.length l → (∀ d ∈ ds, d.ok caps) → okT caps.length (grow caps n ds l)
  | [], n, l, h, g, ok => by
    show okT _ (leafOf l)
    refine ⟨by rw [List.length_map, h.len]; exact c6, fun q hq => ?_⟩
    obtain ⟨s, hs, rfl⟩ := List.mem_map.mp hq
    refine ⟨good_srt ?_, ?_⟩
    · obtain ⟨i, hi, e⟩ := List.mem_iff_getElem.mp hs
      have := g i hi
      rw [atS_of (by rw [List.getElem?_eq_getElem hi, e])] at this
      exact this
    · show (srtI s.g).length ≤ 6
      rw [srtI_len]
      exact Nat.le_trans (glen_mem hs) h.few
  | d :: ds, n, l, h, g, ok => by
    have okd := ok d (List.mem_cons_self ..)
    have okr : ∀ d ∈ ds, d.ok caps := fun e he => ok e (List.mem_cons_of_mem _ he)
    have eg : grow caps n (d :: ds) l = if d.choice caps l = true then .test n (srtI (d.share l).g) (d.limit caps l) (grow caps (n + 1) ds (d.way1 caps l)) (grow caps (n + 1) ds (d.way2 caps l)) else grow caps (n + 1) ds (d.only caps l) := rfl
    rw [eg]
    split
    · exact ⟨good_srt (good_share g h.len okd), by rw [srtI_len]; exact D.share_len h okd, grow_okT c6 (h.way1 okd) (good_way1 g h.len okd) okr, grow_okT c6 (h.way2 okd) (good_way2 g h.len okd) okr⟩
    · exact grow_okT c6 (h.only okd) (good_only g h.len okd) okr
theorem first_good {caps : List Int} : GoodL caps.length (firstShares caps) := fun i hi => by
  rw [firstShares_len] at hi
  rw [first_at hi]
  intro j hj
  obtain rfl := List.mem_singleton.mp hj
  exact ⟨by omega, by omega⟩
theorem tree_okT {caps : List Int} {ds : List D} (c6 : caps.length ≤ 6) (ok : ∀ d ∈ ds, d.ok caps) : okT caps.length (treeOf caps ds) := grow_okT c6 (Shs.first c6) first_good ok
def Bd.grp : Bd → List Int
  | .most g _ => g
  | .least g _ => g
  | .apart g _ _ => g
def okB (n : Nat) (bs : List Bd) : Prop := ∀ b ∈ bs, GoodG n b.grp ∧ b.grp.length ≤ 6
theorem ways_okT {n : Nat} : ∀ {t : Tr} {bs : List Bd} {w : List Bd × List (List Int × Int)}, okT n t → okB n bs → w ∈ waysB bs t → okB n w.1 ∧ w.2.length ≤ 6 ∧ ∀ q ∈ w.2, GoodG n q.1 ∧ q.1.length ≤ 6
  | .leaf ss, bs, w, h, hb, hw => by
    obtain rfl := List.mem_singleton.mp hw
    exact ⟨hb, h.1, h.2⟩
  | .test _ g l a b, bs, w, ⟨h1, h2, h3, h4⟩, hb, hw => by
    have ap : ∀ c : Bd, c.grp = g → okB n (bs ++ [c]) := fun c e x hx => by
      rcases List.mem_append.mp hx with z | z
      · exact hb x z
      · obtain rfl := List.mem_singleton.mp z
        rw [e]
        exact ⟨h1, h2⟩
    rcases List.mem_append.mp hw with z | z
    · exact ways_okT h3 (ap _ rfl) z
    · exact ways_okT h4 (ap _ rfl) z
theorem box_okB {caps : List Int} : okB caps.length (boxOf caps) := fun b hb => by
  unfold boxOf at hb
  obtain ⟨i, hi, hb⟩ := List.mem_flatMap.mp hb
  have hi : i < caps.length := by simpa using hi
  have one : GoodG caps.length [(i : Int)] ∧ [(i : Int)].length ≤ 6 := ⟨fun j hj => by obtain rfl := List.mem_singleton.mp hj; exact ⟨by omega, by omega⟩, by simp⟩
  rcases List.mem_cons.mp hb with e | e
  · subst e
    exact one
  · obtain rfl := List.mem_singleton.mp e
    exact one
theorem waysOf_ok {caps : List Int} {ds : List D} (c6 : caps.length ≤ 6) (ok : ∀ d ∈ ds, d.ok caps) : ∀ w ∈ waysOf caps (treeOf caps ds), okB caps.length w.1 ∧ w.2.length ≤ 6 ∧ ∀ q ∈ w.2, GoodG caps.length q.1 ∧ q.1.length ≤ 6 := fun w hw => ways_okT (tree_okT c6 ok) box_okB hw
end Kp

/-! Kp: how many leaves a tree of a small house has; the groups of a way are disjoint. No Python here. -/
namespace Kp
/-! ### disjoint groups -/
def gcn (z : Int) (l : List Sh) : Nat := (l.map fun s => s.g.count z).sum
theorem gcn_set {z : Int} : ∀ {l : List Sh} {i : Nat} {v : Sh}, i < l.length → gcn z (l.set i v) + (atS l i).g.count z = gcn z l + v.g.count z
  | [], _, _, h => absurd h (Nat.not_lt_zero _)
  | x :: r, 0, v, _ => by
    show v.g.count z + gcn z r + x.g.count z = x.g.count z + gcn z r + v.g.count z
    omega
  | x :: r, i + 1, v, h => by
    have ih := gcn_set (z := z) (l := r) (i := i) (v := v) (by simpa using h)
    show x.g.count z + gcn z (r.set i v) + (atS r i).g.count z = x.g.count z + gcn z r + v.g.count z
    omega
theorem gcn_set2 {z : Int} {l : List Sh} {a b : Nat} {x y : Sh} (ha : a < l.length) (hb : b < l.length) (n : a ≠ b) (h : x.g.count z + y.g.count z ≤ (atS l a).g.count z + (atS l b).g.count z) : gcn z ((l.set a x).set b y) ≤ gcn z l := by
  have h1 := gcn_set (z := z) (l := l) (v := x) ha
  have h2 := gcn_set (z := z) (l := l.set a x) (i := b) (v := y) (by simpa using hb)
  rw [atS_set ha, if_neg n] at h2
  omega
theorem gcn_set1 {z : Int} {l : List Sh} {a : Nat} {x : Sh} (ha : a < l.length) (h : x.g.count z ≤ (atS l a).g.count z) : gcn z (l.set a x) ≤ gcn z l := by
  have h1 := gcn_set (z := z) (l := l) (v := x) ha
  omega
theorem tog_cnt (z : Int) (s t : Sh) : (s.tog t).g.count z = s.g.count z + t.g.count z := by
  show (srtI (s.g ++ t.g)).count z = _
  rw [(srtI_perm _).count_eq, List.count_append]
theorem gcn_way1 {z : Int} {caps : List Int} {d : D} {l : List Sh} (hl : l.length = caps.length) (ok : d.ok caps) : gcn z (d.way1 caps l) ≤ gcn z l := by
  cases d with
  | pour a b =>
    obtain ⟨h1, h2, h3⟩ := ok
    refine gcn_set2 (by omega) (by omega) h3 ?_
    show 0 + ((atS l a).tog (atS l b)).g.count z ≤ _
    rw [tog_cnt]
    omega
  | put a k => exact gcn_set1 (by have := ok.1; omega) (Nat.le_refl _)
  | draw a k => exact gcn_set1 (by have := ok.1; omega) (Nat.zero_le _)
  | change a k => exact gcn_set1 (by have := ok.1; omega) (Nat.zero_le _)
theorem gcn_way2 {z : Int} {caps : List Int} {d : D} {l : List Sh} (hl : l.length = caps.length) (ok : d.ok caps) : gcn z (d.way2 caps l) ≤ gcn z l := by
  cases d with
  | pour a b =>
    obtain ⟨h1, h2, h3⟩ := ok
    refine gcn_set2 (by omega) (by omega) h3 ?_
    show ((atS l a).tog (atS l b)).g.count z + 0 ≤ _
    rw [tog_cnt]
    omega
  | put a k => exact gcn_set1 (by have := ok.1; omega) (Nat.zero_le _)
  | draw a k => exact gcn_set1 (by have := ok.1; omega) (Nat.le_refl _)
  | change a k => exact gcn_set1 (by have := ok.1; omega) (Nat.le_refl _)
theorem gcn_only {z : Int} {caps : List Int} {d : D} {l : List Sh} (hl : l.length = caps.length) (ok : d.ok caps) : gcn z (d.only caps l) ≤ gcn z l := by
  have h1 := gcn_way1 (z := z) hl ok
  have h2 := gcn_way2 (z := z) hl ok
  cases d with
  | change a b =>
    obtain ⟨h1, h2, h3, _⟩ := ok
    exact gcn_set2 (by omega) (by omega) h3 (by omega)
  | pour a b =>
    unfold D.only
    simp only
    split <;> assumption
  | put a b =>
    unfold D.only
    simp only
    split <;> assumption
  | draw a b =>
    unfold D.only
    simp only
    split <;> assumption
theorem w_lens {caps : List Int} {l : List Sh} {d : D} : (d.way1 caps l).length = l.length ∧ (d.way2 caps l).length = l.length ∧ (d.only caps l).length = l.length := by
  have h1 : (d.way1 caps l).length = l.length := by cases d <;> simp [D.way1]
  have h2 : (d.way2 caps l).length = l.length := by cases d <;> simp [D.way2]
  refine ⟨h1, h2, ?_⟩
  cases d with
  | change a b => simp [D.only]
  | pour a b =>
    unfold D.only
    simp only
    split <;> assumption
  | put a b =>
    unfold D.only
    simp only
    split <;> assumption
  | draw a b =>
    unfold D.only
    simp only
    split <;> assumption
def cntT (z : Int) : Tr → Prop
  | .leaf ss => (ss.map fun q => q.1.count z).sum ≤ 1
  | .test _ _ _ a b => cntT z a ∧ cntT z b
theorem grow_cnt {z : Int} {caps : List Int} : ∀ {ds : List D} {n : Nat} {l : List Sh}, l.length = caps.length → (∀ d ∈ ds, d.ok caps) → gcn z l ≤ 1 → cntT z (grow caps n ds l)
  | [], n, l, _, _, h => by
    show ((l.map fun s => (srtI s.g, s.more)).map fun q => q.1.count z).sum ≤ 1
    rw [List.map_map]
    have e : ((fun q : List Int × Int => q.1.count z) ∘ fun s : Sh => (srtI s.g, s.more)) = fun s : Sh => s.g.count z := by
      funext s
      exact (srtI_perm s.g).count_eq z
    rw [e]
    exact h
  | d :: ds, n, l, hl, ok, h => by
    have okd := ok d (List.mem_cons_self ..)
    have okr : ∀ e ∈ ds, e.ok caps := fun e he => ok e (List.mem_cons_of_mem _ he)
    obtain ⟨k1, k2, k3⟩ := w_lens (caps := caps) (l := l) (d := d)
    unfold grow
    split
    · exact ⟨grow_cnt (by omega) okr (Nat.le_trans (gcn_way1 hl okd) h), grow_cnt (by omega) okr (Nat.le_trans (gcn_way2 hl okd) h)⟩
    · exact grow_cnt (by omega) okr (Nat.le_trans (gcn_only hl okd) h)
theorem first_cnt {z : Int} {caps : List Int} : gcn z (firstShares caps) ≤ 1 := by
  unfold gcn firstShares
  rw [List.map_map]
  have : ∀ n : Nat, ((List.range n).map ((fun s : Sh => s.g.count z) ∘ fun i : Nat => (⟨[(i : Int)], 0, 0, at0 caps i⟩ : Sh))).sum = if 0 ≤ z ∧ z < n then 1 else 0 := by
    intro n
    induction n with
    | zero =>
      rw [if_neg (by omega)]
      rfl
    | succ n ih =>
      rw [List.range_succ, List.map_append, List.sum_append, ih]
      show _ + (([(n : Int)] : List Int).count z + 0) = _
      rw [List.count_singleton]
      by_cases e : (n : Int) = z
      · subst e
        rw [if_neg (by omega), if_pos (by simp), if_pos (by omega)]
      · rw [if_neg (show ¬ (((n : Int) == z) = true) by simpa using e)]
        by_cases g : 0 ≤ z ∧ z < n
        · rw [if_pos g, if_pos (by omega)]
        · rw [if_neg g, if_neg (by omega)]
  rw [this]
  split <;> omega
theorem ways_cnt {z : Int} : ∀ {t : Tr} {bs : List Bd} {w : List Bd × List (List Int × Int)}, cntT z t → w ∈ waysB bs t → (w.2.map fun q => q.1.count z).sum ≤ 1
  | .leaf ss, bs, w, h, hw => by
    obtain rfl : w = (bs, ss) := by simpa [waysB] using hw
    exact h
  | .test _ _ _ a b, bs, w, h, hw => by
    unfold waysB at hw
    rcases List.mem_append.mp hw with k | k
    · exact ways_cnt h.1 k
    · exact ways_cnt h.2 k
/-- each jar stands in one sum of a way at most -/
theorem ways_nodup {caps : List Int} {ds : List D} (ok : ∀ d ∈ ds, d.ok caps) {w : List Bd × List (List Int × Int)} (hw : w ∈ waysOf caps (treeOf caps ds)) : (w.2.map fun q => q.1).flatten.Nodup := by
  rw [List.nodup_iff_count]
  intro z
  rw [List.count_flatten, List.map_map]
  exact ways_cnt (grow_cnt (firstShares_len caps) ok first_cnt) hw
/-! ### leaves -/
theorem leaves_pow {caps : List Int} : ∀ {ds : List D} {n : Nat} {l : List Sh}, (grow caps n ds l).leaves ≤ 2 ^ ds.length
  | [], _, _ => Nat.le_refl 1
  | d :: ds, n, l => by
    unfold grow
    split
    · have h1 := leaves_pow (caps := caps) (ds := ds) (n := n + 1) (l := d.way1 caps l)
      have h2 := leaves_pow (caps := caps) (ds := ds) (n := n + 1) (l := d.way2 caps l)
      show _ + _ ≤ 2 ^ (ds.length + 1)
      rw [Nat.pow_succ]
      omega
    · have h1 := leaves_pow (caps := caps) (ds := ds) (n := n + 1) (l := d.only caps l)
      exact Nat.le_trans h1 (Nat.pow_le_pow_right (by decide) (Nat.le_succ _))
/-! ### two jars -/
def Span (s : Sh) : Int := s.high - s.low
def FSp (x y : Int) : Int := if x = 0 then (if y = 0 then 1 else y) else if y = 0 then x else 2 * (x * y)
theorem FSp_comm (x y : Int) : FSp x y = FSp y x := by
  unfold FSp
  by_cases h1 : x = 0 <;> by_cases h2 : y = 0 <;> simp [h1, h2, Int.mul_comm]
theorem FSp_l {x : Int} : FSp x 0 = if x = 0 then 1 else x := by
  unfold FSp
  split <;> simp
theorem FSp_r {x : Int} : FSp 0 x = if x = 0 then 1 else x := by
  rw [FSp_comm, FSp_l]
theorem mul_ge {x y : Int} (hx : 1 ≤ x) (hy : 1 ≤ y) : x + y ≤ x * y + 1 := by
  have h : 0 ≤ (x - 1) * (y - 1) := Int.mul_nonneg (by omega) (by omega)
  have e : (x - 1) * (y - 1) = x * y - x - y + 1 := by
    rw [Int.sub_mul, Int.mul_sub, Int.mul_sub]
    omega
  omega
theorem mul_ge1 {x y : Int} (hx : 1 ≤ x) (hy : 1 ≤ y) : x ≤ x * y ∧ y ≤ x * y := by
  have := mul_ge hx hy
  omega
theorem FSp_ge {x y : Int} (hx : 0 ≤ x) (hy : 0 ≤ y) : x + y ≤ FSp x y ∧ 1 ≤ FSp x y := by
  unfold FSp
  split
  · split <;> omega
  · split
    · omega
    · have := mul_ge (show 1 ≤ x by omega) (show 1 ≤ y by omega)
      have := mul_ge1 (show 1 ≤ x by omega) (show 1 ≤ y by omega)
      omega
theorem F_pour {x y a b : Int} (hx : 0 ≤ x) (hy : 0 ≤ y) (e : a + b = x + y) (ha : 1 ≤ a) (hb : 1 ≤ b) : FSp 0 a + FSp b 0 ≤ FSp x y := by
  rw [FSp_r, FSp_l, if_neg (by omega), if_neg (by omega)]
  have := (FSp_ge hx hy).1
  omega
theorem F_all {x y : Int} (hx : 0 ≤ x) (hy : 0 ≤ y) : FSp 0 (x + y) ≤ FSp x y := by
  rw [FSp_r]
  have := FSp_ge hx hy
  split <;> omega
theorem F_some {x y a : Int} (hx : a + 1 ≤ x) (hy : 0 ≤ y) (ha : 1 ≤ a) : FSp a y + FSp 0 y ≤ FSp x y := by
  unfold FSp
  rw [if_neg (show ¬ a = 0 by omega), if_neg (show ¬ x = 0 by omega), if_pos rfl]
  split
  · omega
  · have h : a * y ≤ (x - 1) * y := Int.mul_le_mul_of_nonneg_right (by omega) (by omega)
    rw [Int.sub_mul] at h
    omega
theorem F_none {x y : Int} (hx : 0 ≤ x) (hy : 0 ≤ y) : FSp 0 y ≤ FSp x y := by
  rw [FSp_r]
  have := FSp_ge hx hy
  split <;> omega
theorem wd_tog (s t : Sh) : Span (s.tog t) = Span s + Span t := by
  show s.high + t.high - (s.low + t.low) = (s.high - s.low) + (t.high - t.low)
  omega
theorem wd_none (m : Int) : Span (Sh.none m) = 0 := rfl
theorem wd_choice {m : Sh} {l a b : Int} (h1 : m.low < l) (h2 : l < m.high) : 1 ≤ Span (m.atMost l a) ∧ 1 ≤ Span (m.atLeast l b) ∧ Span (m.atMost l a) + Span (m.atLeast l b) = Span m := by
  have e1 : Span (m.atMost l a) = l - m.low := by
    show (if l < m.high then l else m.high) - m.low = _
    rw [if_pos h2]
  have e2 : Span (m.atLeast l b) = m.high - l := by
    show m.high - (if l > m.low then l else m.low) = _
    rw [if_pos h1]
  rw [e1, e2]
  unfold Span
  omega
theorem wd_most {m : Sh} {l a : Int} (h : m.high ≤ l) : Span (m.atMost l a) = Span m := by
  show (if l < m.high then l else m.high) - m.low = _
  rw [if_neg (by omega)]
  rfl
theorem wd_least {m : Sh} {l a : Int} (h : l ≤ m.low) : Span (m.atLeast l a) = Span m := by
  show m.high - (if l > m.low then l else m.low) = _
  rw [if_neg (by omega)]
  rfl
theorem leaves_two {caps : List Int} (c2 : caps.length = 2) : ∀ {ds : List D} {n : Nat} {s t : Sh}, 0 ≤ Span s → 0 ≤ Span t → (∀ d ∈ ds, d.ok caps) → ((grow caps n ds [s, t]).leaves : Int) ≤ FSp (Span s) (Span t)
  | [], n, s, t, hs, ht, _ => (FSp_ge hs ht).2
  | d :: ds, n, s, t, hs, ht, ok => by
    have okd := ok d (List.mem_cons_self ..)
    have okr : ∀ e ∈ ds, e.ok caps := fun e he => ok e (List.mem_cons_of_mem _ he)
    -- whichever way it goes, on stands of two
    have go : ∀ {u v : Sh} {m : Int}, 0 ≤ Span u → 0 ≤ Span v → FSp (Span u) (Span v) ≤ m → ((grow caps (n + 1) ds [u, v]).leaves : Int) ≤ m := fun hu hv h => Int.le_trans (leaves_two c2 hu hv okr) h
    have two : ∀ {u v u' v' : Sh} {m : Int}, 0 ≤ Span u → 0 ≤ Span v → 0 ≤ Span u' → 0 ≤ Span v' → FSp (Span u) (Span v) + FSp (Span u') (Span v') ≤ m → (((grow caps (n + 1) ds [u, v]).leaves + (grow caps (n + 1) ds [u', v']).leaves : Nat) : Int) ≤ m := fun h1 h2 h3 h4 h => by
      have k1 := leaves_two (ds := ds) (n := n + 1) c2 h1 h2 okr
      have k2 := leaves_two (ds := ds) (n := n + 1) c2 h3 h4 okr
      omega
    have z : ∀ m : Int, (0 : Int) ≤ Span (Sh.none m) := fun m => by rw [wd_none]; omega
    show ((if d.choice caps [s, t] = true then Tr.test n _ _ _ _ else _ : Tr).leaves : Int) ≤ _
    split
    · rename_i ch
      have nc : d.ischange = false := by
        unfold D.choice at ch
        cases h : d.ischange with
        | true => rw [h] at ch; cases ch
        | false => rfl
      have lt : (d.share [s, t]).low < d.limit caps [s, t] ∧ d.limit caps [s, t] < (d.share [s, t]).high := by
        unfold D.choice at ch
        rw [nc] at ch
        simpa using ch
      show (((grow caps (n + 1) ds (d.way1 caps [s, t])).leaves + (grow caps (n + 1) ds (d.way2 caps [s, t])).leaves : Nat) : Int) ≤ _
      cases d with
      | change a b => cases nc
      | pour a b =>
        obtain ⟨h1, h2, h3⟩ := okd
        have hab : (a = 0 ∧ b = 1) ∨ (a = 1 ∧ b = 0) := by omega
        rcases hab with ⟨rfl, rfl⟩ | ⟨rfl, rfl⟩
        · obtain ⟨w1, w2, w3⟩ := wd_choice (a := 0) (b := -(at0 caps 1)) lt.1 lt.2
          have e : Span ((D.pour 0 1).share [s, t]) = Span s + Span t := wd_tog s t
          exact two (u := Sh.none 0) (v := ((D.pour 0 1).share [s, t]).atMost ((D.pour 0 1).limit caps [s, t]) 0) (u' := ((D.pour 0 1).share [s, t]).atLeast ((D.pour 0 1).limit caps [s, t]) (-(at0 caps 1))) (v' := Sh.none (at0 caps 1))
            (z _) (by omega) (by omega) (z _) (F_pour hs ht (by rw [w3, e]) w1 w2)
        · obtain ⟨w1, w2, w3⟩ := wd_choice (a := 0) (b := -(at0 caps 0)) lt.1 lt.2
          have e : Span ((D.pour 1 0).share [s, t]) = Span t + Span s := wd_tog t s
          refine two (u := ((D.pour 1 0).share [s, t]).atMost ((D.pour 1 0).limit caps [s, t]) 0) (v := Sh.none 0) (u' := Sh.none (at0 caps 0)) (v' := ((D.pour 1 0).share [s, t]).atLeast ((D.pour 1 0).limit caps [s, t]) (-(at0 caps 0)))
            (by omega) (z _) (z _) (by omega) ?_
          have := F_pour (a := Span (((D.pour 1 0).share [s, t]).atLeast ((D.pour 1 0).limit caps [s, t]) (-(at0 caps 0)))) (b := Span (((D.pour 1 0).share [s, t]).atMost ((D.pour 1 0).limit caps [s, t]) 0)) hs ht (by omega) w2 w1
          rw [wd_none, wd_none]
          omega
      | put a k =>
        have hab : a = 0 ∨ a = 1 := by have := okd.1; omega
        rcases hab with rfl | rfl
        · obtain ⟨w1, w2, w3⟩ := wd_choice (a := k) (b := 0) lt.1 lt.2
          have w3 : _ = Span s := w3
          exact two (u := s.atMost ((D.put 0 k).limit caps [s, t]) k) (v := t) (u' := Sh.none (at0 caps 0)) (v' := t) (Int.le_trans (by decide) w1) ht (z _) ht (F_some (by show Span (((D.put 0 k).share [s, t]).atMost _ k) + 1 ≤ _; omega) ht w1)
        · obtain ⟨w1, w2, w3⟩ := wd_choice (a := k) (b := 0) lt.1 lt.2
          have w3 : _ = Span t := w3
          refine two (u := s) (v := t.atMost ((D.put 1 k).limit caps [s, t]) k) (u' := s) (v' := Sh.none (at0 caps 1)) hs (Int.le_trans (by decide) w1) hs (z _) ?_
          rw [FSp_comm (Span s) (Span t), FSp_comm (Span s), FSp_comm (Span s)]
          exact F_some (by show Span (((D.put 1 k).share [s, t]).atMost _ k) + 1 ≤ _; omega) hs w1
      | draw a k =>
        have hab : a = 0 ∨ a = 1 := by have := okd.1; omega
        rcases hab with rfl | rfl
        · obtain ⟨w1, w2, w3⟩ := wd_choice (a := 0) (b := -k) lt.1 lt.2
          have w3 : _ = Span s := w3
          refine two (u := Sh.none 0) (v := t) (u' := s.atLeast ((D.draw 0 k).limit caps [s, t]) (-k)) (v' := t) (z _) ht (Int.le_trans (by decide) w2) ht ?_
          have := F_some (x := Span s) (y := Span t) (a := Span (((D.draw 0 k).share [s, t]).atLeast ((D.draw 0 k).limit caps [s, t]) (-k))) (by omega) ht w2
          rw [Int.add_comm]
          exact this
        · obtain ⟨w1, w2, w3⟩ := wd_choice (a := 0) (b := -k) lt.1 lt.2
          have w3 : _ = Span t := w3
          refine two (u := s) (v := Sh.none 0) (u' := s) (v' := t.atLeast ((D.draw 1 k).limit caps [s, t]) (-k)) hs (z _) hs (Int.le_trans (by decide) w2) ?_
          have := F_some (x := Span t) (y := Span s) (a := Span (((D.draw 1 k).share [s, t]).atLeast ((D.draw 1 k).limit caps [s, t]) (-k))) (by omega) hs w2
          rw [Int.add_comm, FSp_comm (Span s) (Span t), FSp_comm (Span s), FSp_comm (Span s)]
          exact this
    · rename_i ch
      have least : d.ischange = false → ¬ (d.share [s, t]).high ≤ d.limit caps [s, t] → d.limit caps [s, t] ≤ (d.share [s, t]).low := fun nc h => by
        unfold D.choice at ch
        rw [nc] at ch
        simp only [Bool.not_false, Bool.true_and, Bool.and_eq_true, decide_eq_true_eq] at ch
        omega
      cases d with
      | change a b =>
        obtain ⟨h1, h2, h3, _⟩ := okd
        have hab : (a = 0 ∧ b = 1) ∨ (a = 1 ∧ b = 0) := by omega
        rcases hab with ⟨rfl, rfl⟩ | ⟨rfl, rfl⟩
        · exact go (u := t) (v := s) ht hs (by rw [FSp_comm]; exact Int.le_refl _)
        · exact go (u := t) (v := s) ht hs (by rw [FSp_comm]; exact Int.le_refl _)
      | pour a b =>
        obtain ⟨h1, h2, h3⟩ := okd
        have hab : (a = 0 ∧ b = 1) ∨ (a = 1 ∧ b = 0) := by omega
        rcases hab with ⟨rfl, rfl⟩ | ⟨rfl, rfl⟩
        · have e : Span ((D.pour 0 1).share [s, t]) = Span s + Span t := wd_tog s t
          by_cases g : ((D.pour 0 1).share [s, t]).high ≤ (D.pour 0 1).limit caps [s, t]
          · rw [show (D.pour 0 1).only caps [s, t] = (D.pour 0 1).way1 caps [s, t] from if_pos g]
            have w := (wd_most (a := 0) g).trans e
            exact go (u := Sh.none 0) (v := ((D.pour 0 1).share [s, t]).atMost ((D.pour 0 1).limit caps [s, t]) 0) (z _) (by omega) (by rw [w]; exact F_all hs ht)
          · rw [show (D.pour 0 1).only caps [s, t] = (D.pour 0 1).way2 caps [s, t] from if_neg g]
            have w := (wd_least (a := -(at0 caps 1)) (least rfl g)).trans e
            exact go (u := ((D.pour 0 1).share [s, t]).atLeast ((D.pour 0 1).limit caps [s, t]) (-(at0 caps 1))) (v := Sh.none (at0 caps 1)) (by omega) (z _) (by rw [w, FSp_comm]; exact F_all hs ht)
        · have e : Span ((D.pour 1 0).share [s, t]) = Span s + Span t := (wd_tog t s).trans (Int.add_comm _ _)
          by_cases g : ((D.pour 1 0).share [s, t]).high ≤ (D.pour 1 0).limit caps [s, t]
          · rw [show (D.pour 1 0).only caps [s, t] = (D.pour 1 0).way1 caps [s, t] from if_pos g]
            have w := (wd_most (a := 0) g).trans e
            exact go (u := ((D.pour 1 0).share [s, t]).atMost ((D.pour 1 0).limit caps [s, t]) 0) (v := Sh.none 0) (by omega) (z _) (by rw [w, FSp_comm]; exact F_all hs ht)
          · rw [show (D.pour 1 0).only caps [s, t] = (D.pour 1 0).way2 caps [s, t] from if_neg g]
            have w := (wd_least (a := -(at0 caps 0)) (least rfl g)).trans e
            exact go (u := Sh.none (at0 caps 0)) (v := ((D.pour 1 0).share [s, t]).atLeast ((D.pour 1 0).limit caps [s, t]) (-(at0 caps 0))) (z _) (by omega) (by rw [w]; exact F_all hs ht)
      | put a k =>
        have hab : a = 0 ∨ a = 1 := by have := okd.1; omega
        rcases hab with rfl | rfl
        · by_cases g : ((D.put 0 k).share [s, t]).high ≤ (D.put 0 k).limit caps [s, t]
          · rw [show (D.put 0 k).only caps [s, t] = (D.put 0 k).way1 caps [s, t] from if_pos g]
            have w : Span (((D.put 0 k).share [s, t]).atMost ((D.put 0 k).limit caps [s, t]) k) = Span s := wd_most (a := k) g
            exact go (u := ((D.put 0 k).share [s, t]).atMost ((D.put 0 k).limit caps [s, t]) k) (v := t) (by omega) ht (by rw [w]; exact Int.le_refl _)
          · rw [show (D.put 0 k).only caps [s, t] = (D.put 0 k).way2 caps [s, t] from if_neg g]
            exact go (u := Sh.none (at0 caps 0)) (v := t) (z _) ht (F_none hs ht)
        · by_cases g : ((D.put 1 k).share [s, t]).high ≤ (D.put 1 k).limit caps [s, t]
          · rw [show (D.put 1 k).only caps [s, t] = (D.put 1 k).way1 caps [s, t] from if_pos g]
            have w : Span (((D.put 1 k).share [s, t]).atMost ((D.put 1 k).limit caps [s, t]) k) = Span t := wd_most (a := k) g
            exact go (u := s) (v := ((D.put 1 k).share [s, t]).atMost ((D.put 1 k).limit caps [s, t]) k) hs (by omega) (by rw [w]; exact Int.le_refl _)
          · rw [show (D.put 1 k).only caps [s, t] = (D.put 1 k).way2 caps [s, t] from if_neg g]
            exact go (u := s) (v := Sh.none (at0 caps 1)) hs (z _) (by rw [FSp_comm, FSp_comm (Span s)]; exact F_none ht hs)
      | draw a k =>
        have hab : a = 0 ∨ a = 1 := by have := okd.1; omega
        rcases hab with rfl | rfl
        · by_cases g : ((D.draw 0 k).share [s, t]).high ≤ (D.draw 0 k).limit caps [s, t]
          · rw [show (D.draw 0 k).only caps [s, t] = (D.draw 0 k).way1 caps [s, t] from if_pos g]
            exact go (u := Sh.none 0) (v := t) (z _) ht (F_none hs ht)
          · rw [show (D.draw 0 k).only caps [s, t] = (D.draw 0 k).way2 caps [s, t] from if_neg g]
            have w : Span (((D.draw 0 k).share [s, t]).atLeast ((D.draw 0 k).limit caps [s, t]) (-k)) = Span s := wd_least (a := -k) (least rfl g)
            exact go (u := ((D.draw 0 k).share [s, t]).atLeast ((D.draw 0 k).limit caps [s, t]) (-k)) (v := t) (by omega) ht (by rw [w]; exact Int.le_refl _)
        · by_cases g : ((D.draw 1 k).share [s, t]).high ≤ (D.draw 1 k).limit caps [s, t]
          · rw [show (D.draw 1 k).only caps [s, t] = (D.draw 1 k).way1 caps [s, t] from if_pos g]
            exact go (u := s) (v := Sh.none 0) hs (z _) (by rw [FSp_comm, FSp_comm (Span s)]; exact F_none ht hs)
          · rw [show (D.draw 1 k).only caps [s, t] = (D.draw 1 k).way2 caps [s, t] from if_neg g]
            have w : Span (((D.draw 1 k).share [s, t]).atLeast ((D.draw 1 k).limit caps [s, t]) (-k)) = Span t := wd_least (a := -k) (least rfl g)
            exact go (u := s) (v := ((D.draw 1 k).share [s, t]).atLeast ((D.draw 1 k).limit caps [s, t]) (-k)) hs (by omega) (by rw [w]; exact Int.le_refl _)
/-- two jars of size 3 at most: 18 leaves at most -/
theorem tree_two {caps : List Int} {ds : List D} (c2 : caps.length = 2) (h : ∀ x ∈ caps, 1 ≤ x ∧ x ≤ 3) (ok : ∀ d ∈ ds, d.ok caps) : (treeOf caps ds).leaves ≤ 18 := by
  match caps, c2, h, ok with
  | [x, y], c2, h, ok =>
    have hx := h x (by simp)
    have hy := h y (by simp)
    have e : treeOf [x, y] ds = grow [x, y] 0 ds [⟨[0], 0, 0, x⟩, ⟨[1], 0, 0, y⟩] := rfl
    have k := leaves_two (caps := [x, y]) (ds := ds) (n := 0) (s := ⟨[0], 0, 0, x⟩) (t := ⟨[1], 0, 0, y⟩) c2 (by show 0 ≤ x - 0; omega) (by show 0 ≤ y - 0; omega) ok
    rw [e]
    have w1 : Span ⟨[0], 0, 0, x⟩ = x := by show x - 0 = x; omega
    have w2 : Span ⟨[1], 0, 0, y⟩ = y := by show y - 0 = y; omega
    rw [w1, w2] at k
    have f : FSp x y ≤ 18 := by
      unfold FSp
      rw [if_neg (by omega), if_neg (by omega)]
      have : x * y ≤ 3 * 3 := Int.mul_le_mul hx.2 hy.2 (by omega) (by decide)
      omega
    omega
end Kp

/-! Kp: starts strictly within, in one part more than there are jars: both ways of a deed have room just where some of them go either way. No Python here. -/
namespace Kp
structure Rg (p : Int) (s : Sh) (l h : Int) : Prop where
  la : s.low * p ≤ l
  lb : l ≤ s.low * p + s.g.length
  ha : h ≤ s.high * p
  hb : s.high * p - s.g.length ≤ h
  le : l ≤ h
  non : s.g = [] → s.low = 0 ∧ s.high = 0
  som : s.g ≠ [] → s.low * p < l ∧ h < s.high * p
structure Grid (p : Int) (S : List Sh) (lo hi : Nat → Int) (pts : List (List Int)) : Prop where
  rg : ∀ i, i < S.length → Rg p (atS S i) (lo i) (hi i)
  pt : ∀ st ∈ pts, ∀ i, i < S.length → lo i ≤ gsum st (atS S i).g ∧ gsum st (atS S i).g ≤ hi i
  al : ∀ t : Nat → Int, (∀ i, i < S.length → lo i ≤ t i ∧ t i ≤ hi i) → ∃ st ∈ pts, ∀ i, i < S.length → gsum st (atS S i).g = t i
def Inside (p : Int) (S : List Sh) (pts : List (List Int)) : Prop := ∃ lo hi, Grid p S lo hi pts
def putI (f : Nat → Int) (i : Nat) (v : Int) : Nat → Int := fun j => if j = i then v else f j
theorem putI_same {f : Nat → Int} {i : Nat} {v : Int} : putI f i v i = v := if_pos rfl
theorem putI_ne {f : Nat → Int} {i j : Nat} {v : Int} (h : j ≠ i) : putI f i v j = f j := if_neg h
theorem Rg.none (p m : Int) : Rg p (Sh.none m) 0 0 := by
  refine ⟨?_, ?_, ?_, ?_, Int.le_refl _, fun _ => ⟨rfl, rfl⟩, fun h => absurd rfl h⟩ <;> show _ ≤ _ <;> simp [Sh.none]
theorem gsum_nil {st : List Int} : gsum st [] = 0 := rfl
/-- one share, its group kept -/
theorem Grid.one {p : Int} {S : List Sh} {lo hi : Nat → Int} {pts pts' : List (List Int)} {i : Nat} {s : Sh} {l h : Int} (G : Grid p S lo hi pts) (hi' : i < S.length) (eg : s.g = (atS S i).g) (R : Rg p s l h) (h1 : lo i ≤ l) (h2 : h ≤ hi i)
    (sub : ∀ st, st ∈ pts' ↔ st ∈ pts ∧ l ≤ gsum st s.g ∧ gsum st s.g ≤ h) : Grid p (S.set i s) (putI lo i l) (putI hi i h) pts' := by
  have len : (S.set i s).length = S.length := List.length_set ..
  have at_ : ∀ j, j < S.length → (j = i ∧ atS (S.set i s) j = s) ∨ (j ≠ i ∧ atS (S.set i s) j = atS S j) := fun j hj => by
    rw [atS_set hi']
    by_cases e : i = j
    · subst e
      exact .inl ⟨rfl, if_pos rfl⟩
    · exact .inr ⟨fun z => e z.symm, if_neg e⟩
  refine ⟨fun j hj => ?_, fun st hst j hj => ?_, fun t ht => ?_⟩
  · rw [len] at hj
    rcases at_ j hj with ⟨rfl, e⟩ | ⟨n, e⟩
    · rw [e, putI_same, putI_same]
      exact R
    · rw [e, putI_ne n, putI_ne n]
      exact G.rg j hj
  · rw [len] at hj
    obtain ⟨m, q1, q2⟩ := (sub st).mp hst
    rcases at_ j hj with ⟨rfl, e⟩ | ⟨n, e⟩
    · rw [e, putI_same, putI_same]
      exact ⟨q1, q2⟩
    · rw [e, putI_ne n, putI_ne n]
      exact G.pt st m j hj
  · rw [len] at ht
    have ti := ht i hi'
    rw [putI_same, putI_same] at ti
    obtain ⟨st, m, q⟩ := G.al t fun j hj => by
      by_cases e : j = i
      · subst e
        omega
      · have := ht j hj
        rw [putI_ne e, putI_ne e] at this
        exact this
    have qi := q i hi'
    rw [← eg] at qi
    refine ⟨st, (sub st).mpr ⟨m, by omega, by omega⟩, fun j hj => ?_⟩
    rw [len] at hj
    rcases at_ j hj with ⟨rfl, e⟩ | ⟨n, e⟩
    · rw [e]
      exact qi
    · rw [e]
      exact q j hj
/-- a share whose jar is emptied or filled -/
theorem Grid.drop {p : Int} {S : List Sh} {lo hi : Nat → Int} {pts : List (List Int)} {i : Nat} (m : Int) (G : Grid p S lo hi pts) (hi' : i < S.length) : Grid p (S.set i (Sh.none m)) (putI lo i 0) (putI hi i 0) pts := by
  have len : (S.set i (Sh.none m)).length = S.length := List.length_set ..
  have at_ : ∀ j, j < S.length → (j = i ∧ atS (S.set i (Sh.none m)) j = Sh.none m) ∨ (j ≠ i ∧ atS (S.set i (Sh.none m)) j = atS S j) := fun j hj => by
    rw [atS_set hi']
    by_cases e : i = j
    · subst e
      exact .inl ⟨rfl, if_pos rfl⟩
    · exact .inr ⟨fun z => e z.symm, if_neg e⟩
  refine ⟨fun j hj => ?_, fun st hst j hj => ?_, fun t ht => ?_⟩
  · rw [len] at hj
    rcases at_ j hj with ⟨rfl, e⟩ | ⟨n, e⟩
    · rw [e, putI_same, putI_same]
      exact Rg.none p m
    · rw [e, putI_ne n, putI_ne n]
      exact G.rg j hj
  · rw [len] at hj
    rcases at_ j hj with ⟨rfl, e⟩ | ⟨n, e⟩
    · rw [e, putI_same, putI_same]
      exact ⟨Int.le_refl _, Int.le_refl _⟩
    · rw [e, putI_ne n, putI_ne n]
      exact G.pt st hst j hj
  · rw [len] at ht
    have ti := ht i hi'
    rw [putI_same, putI_same] at ti
    obtain ⟨st, m', q⟩ := G.al (putI t i (lo i)) fun j hj => by
      by_cases e : j = i
      · subst e
        rw [putI_same]
        exact ⟨Int.le_refl _, (G.rg j hj).le⟩
      · have := ht j hj
        rw [putI_ne e, putI_ne e] at this
        rw [putI_ne e]
        exact this
    refine ⟨st, m', fun j hj => ?_⟩
    rw [len] at hj
    rcases at_ j hj with ⟨rfl, e⟩ | ⟨n, e⟩
    · rw [e]
      show gsum st [] = t j
      rw [gsum_nil]
      omega
    · rw [e, q j hj, putI_ne n]
/-- both in one jar -/
theorem Grid.tog {p : Int} {S : List Sh} {lo hi : Nat → Int} {pts : List (List Int)} {a b : Nat} {s : Sh} (m : Int) (G : Grid p S lo hi pts) (ha : a < S.length) (hb : b < S.length) (n : a ≠ b) (e1 : s.g.Perm ((atS S a).g ++ (atS S b).g)) (e2 : s.low = (atS S a).low + (atS S b).low) (e3 : s.high = (atS S a).high + (atS S b).high) :
    Grid p ((S.set a (Sh.none m)).set b s) (putI (putI lo a 0) b (lo a + lo b)) (putI (putI hi a 0) b (hi a + hi b)) pts := by
  have len : ((S.set a (Sh.none m)).set b s).length = S.length := by simp
  have gs : ∀ st, gsum st s.g = gsum st (atS S a).g + gsum st (atS S b).g := fun st => by rw [gsum_perm e1, gsum_app]
  have gl : s.g.length = (atS S a).g.length + (atS S b).g.length := by rw [e1.length_eq, List.length_append]
  have at_ : ∀ j, j < S.length → (j = b ∧ atS ((S.set a (Sh.none m)).set b s) j = s) ∨ (j ≠ b ∧ j = a ∧ atS ((S.set a (Sh.none m)).set b s) j = Sh.none m) ∨ (j ≠ b ∧ j ≠ a ∧ atS ((S.set a (Sh.none m)).set b s) j = atS S j) := fun j hj => by
    rw [atS_set (by simpa using hb), atS_set ha]
    by_cases e : b = j
    · subst e
      exact .inl ⟨rfl, if_pos rfl⟩
    · by_cases e' : a = j
      · subst e'
        exact .inr (.inl ⟨fun z => e z.symm, rfl, by rw [if_neg e, if_pos rfl]⟩)
      · exact .inr (.inr ⟨fun z => e z.symm, fun z => e' z.symm, by rw [if_neg e, if_neg e']⟩)
  have A := G.rg a ha
  have B := G.rg b hb
  refine ⟨fun j hj => ?_, fun st hst j hj => ?_, fun t ht => ?_⟩
  · rw [len] at hj
    rcases at_ j hj with ⟨rfl, e⟩ | ⟨nb, rfl, e⟩ | ⟨nb, na, e⟩
    · rw [e, putI_same, putI_same]
      have := A.la; have := A.lb; have := A.ha; have := A.hb; have := A.le
      have := B.la; have := B.lb; have := B.ha; have := B.hb; have := B.le
      refine ⟨by rw [e2, Int.add_mul]; omega, by rw [e2, Int.add_mul, gl]; omega, by rw [e3, Int.add_mul]; omega, by rw [e3, Int.add_mul, gl]; omega, by omega, fun z => ?_, fun z => ?_⟩
      · have z' : s.g.length = 0 := by rw [z]; rfl
        have z1 := A.non (List.length_eq_zero_iff.mp (by omega))
        have z2 := B.non (List.length_eq_zero_iff.mp (by omega))
        omega
      · have q : (atS S a).g ≠ [] ∨ (atS S j).g ≠ [] := by
          by_cases y : (atS S a).g = []
          · refine .inr fun y' => z (List.length_eq_zero_iff.mp ?_)
            rw [gl, y, y']
            rfl
          · exact .inl y
        rw [e2, e3, Int.add_mul, Int.add_mul]
        rcases q with q | q
        · have := A.som q
          omega
        · have := B.som q
          omega
    · rw [e, putI_ne nb, putI_ne nb, putI_same, putI_same]
      exact Rg.none p m
    · rw [e, putI_ne nb, putI_ne nb, putI_ne na, putI_ne na]
      exact G.rg j hj
  · rw [len] at hj
    rcases at_ j hj with ⟨rfl, e⟩ | ⟨nb, rfl, e⟩ | ⟨nb, na, e⟩
    · rw [e, putI_same, putI_same, gs]
      have := G.pt st hst a ha
      have := G.pt st hst j hj
      omega
    · rw [e, putI_ne nb, putI_ne nb, putI_same, putI_same]
      exact ⟨Int.le_refl _, Int.le_refl _⟩
    · rw [e, putI_ne nb, putI_ne nb, putI_ne na, putI_ne na]
      exact G.pt st hst j hj
  · rw [len] at ht
    have tb := ht b hb
    rw [putI_same, putI_same] at tb
    have ta := ht a ha
    rw [putI_ne n, putI_ne n, putI_same, putI_same] at ta
    have al := A.le
    have bl := B.le
    obtain ⟨x, y, hx, hy, exy⟩ : ∃ x y, (lo a ≤ x ∧ x ≤ hi a) ∧ (lo b ≤ y ∧ y ≤ hi b) ∧ x + y = t b := by
      by_cases c : lo a + hi b ≤ t b
      · exact ⟨t b - hi b, hi b, by omega, by omega, by omega⟩
      · exact ⟨lo a, t b - lo a, by omega, by omega, by omega⟩
    obtain ⟨st, mm, q⟩ := G.al (putI (putI t a x) b y) fun j hj => by
      by_cases eb : j = b
      · subst eb
        rw [putI_same]
        exact hy
      · rw [putI_ne eb]
        by_cases ea : j = a
        · subst ea
          rw [putI_same]
          exact hx
        · rw [putI_ne ea]
          have := ht j hj
          rw [putI_ne eb, putI_ne eb, putI_ne ea, putI_ne ea] at this
          exact this
    refine ⟨st, mm, fun j hj => ?_⟩
    rw [len] at hj
    rcases at_ j hj with ⟨rfl, e⟩ | ⟨nb, rfl, e⟩ | ⟨nb, na, e⟩
    · have q1 := q a ha
      have q2 := q j hj
      rw [putI_ne n, putI_same] at q1
      rw [putI_same] at q2
      rw [e, gs, q1, q2]
      exact exy
    · rw [e]
      show gsum st [] = t j
      rw [gsum_nil]
      omega
    · rw [e, q j hj, putI_ne nb, putI_ne na]
/-- exchanged -/
theorem Grid.swap {p : Int} {S : List Sh} {lo hi : Nat → Int} {pts : List (List Int)} {a b : Nat} (G : Grid p S lo hi pts) (ha : a < S.length) (hb : b < S.length) (n : a ≠ b) : Grid p ((S.set a (atS S b)).set b (atS S a)) (putI (putI lo a (lo b)) b (lo a)) (putI (putI hi a (hi b)) b (hi a)) pts := by
  have len : ((S.set a (atS S b)).set b (atS S a)).length = S.length := by simp
  have at_ : ∀ j, j < S.length → (j = b ∧ atS ((S.set a (atS S b)).set b (atS S a)) j = atS S a) ∨ (j ≠ b ∧ j = a ∧ atS ((S.set a (atS S b)).set b (atS S a)) j = atS S b) ∨ (j ≠ b ∧ j ≠ a ∧ atS ((S.set a (atS S b)).set b (atS S a)) j = atS S j) := fun j hj => by
    rw [atS_set (by simpa using hb), atS_set ha]
    by_cases e : b = j
    · subst e
      exact .inl ⟨rfl, if_pos rfl⟩
    · by_cases e' : a = j
      · subst e'
        exact .inr (.inl ⟨fun z => e z.symm, rfl, by rw [if_neg e, if_pos rfl]⟩)
      · exact .inr (.inr ⟨fun z => e z.symm, fun z => e' z.symm, by rw [if_neg e, if_neg e']⟩)
  refine ⟨fun j hj => ?_, fun st hst j hj => ?_, fun t ht => ?_⟩
  · rw [len] at hj
    rcases at_ j hj with ⟨rfl, e⟩ | ⟨nb, rfl, e⟩ | ⟨nb, na, e⟩
    · rw [e, putI_same, putI_same]
      exact G.rg a ha
    · rw [e, putI_ne nb, putI_ne nb, putI_same, putI_same]
      exact G.rg b hb
    · rw [e, putI_ne nb, putI_ne nb, putI_ne na, putI_ne na]
      exact G.rg j hj
  · rw [len] at hj
    rcases at_ j hj with ⟨rfl, e⟩ | ⟨nb, rfl, e⟩ | ⟨nb, na, e⟩
    · rw [e, putI_same, putI_same]
      exact G.pt st hst a ha
    · rw [e, putI_ne nb, putI_ne nb, putI_same, putI_same]
      exact G.pt st hst b hb
    · rw [e, putI_ne nb, putI_ne nb, putI_ne na, putI_ne na]
      exact G.pt st hst j hj
  · rw [len] at ht
    have tb := ht b hb
    rw [putI_same, putI_same] at tb
    have ta := ht a ha
    rw [putI_ne n, putI_ne n, putI_same, putI_same] at ta
    obtain ⟨st, mm, q⟩ := G.al (putI (putI t a (t b)) b (t a)) fun j hj => by
      by_cases eb : j = b
      · subst eb
        rw [putI_same]
        exact ta
      · rw [putI_ne eb]
        by_cases ea : j = a
        · subst ea
          rw [putI_same]
          exact tb
        · rw [putI_ne ea]
          have := ht j hj
          rw [putI_ne eb, putI_ne eb, putI_ne ea, putI_ne ea] at this
          exact this
    refine ⟨st, mm, fun j hj => ?_⟩
    rw [len] at hj
    rcases at_ j hj with ⟨rfl, e⟩ | ⟨nb, rfl, e⟩ | ⟨nb, na, e⟩
    · rw [e, q a ha, putI_ne n, putI_same]
    · rw [e, q b hb, putI_same]
    · rw [e, q j hj, putI_ne nb, putI_ne na]
/-! ### what a test of one share tells -/
section
variable {p : Int} {S : List Sh} {lo hi : Nat → Int} {pts : List (List Int)} {c : Nat} {L : Int}
theorem up_mul {x y p : Int} (h : x < y) (hp : 0 ≤ p) : x * p + p ≤ y * p := by
  have := Int.mul_le_mul_of_nonneg_right (show x + 1 ≤ y by omega) hp
  rw [Int.add_mul, Int.one_mul] at this
  exact this
theorem le_mul {x y p : Int} (h : x ≤ y) (hp : 0 ≤ p) : x * p ≤ y * p := Int.mul_le_mul_of_nonneg_right h hp
theorem Grid.below (G : Grid p S lo hi pts) (hc : c < S.length) (hp : ((atS S c).g.length : Int) + 1 ≤ p) : (∃ st ∈ pts, gsum st (atS S c).g < L * p) ↔ (atS S c).low < L ∨ ((atS S c).g = [] ∧ lo c < L * p ∧ ∃ st, st ∈ pts) := by
  have R := G.rg c hc
  constructor
  · rintro ⟨st, m, h⟩
    have q := G.pt st m c hc
    by_cases e : (atS S c).low < L
    · exact .inl e
    · exfalso
      have := le_mul (p := p) (show L ≤ (atS S c).low by omega) (by omega)
      have := R.la
      omega
  · intro h
    obtain ⟨st, m, q⟩ := G.al lo fun j hj => ⟨Int.le_refl _, (G.rg j hj).le⟩
    refine ⟨st, m, ?_⟩
    rw [q c hc]
    rcases h with h | ⟨_, h, _⟩
    · have := up_mul (p := p) h (by omega)
      have := R.lb
      omega
    · exact h
theorem Grid.below' (G : Grid p S lo hi pts) (hc : c < S.length) (hp : ((atS S c).g.length : Int) + 1 ≤ p) (hg : (atS S c).g ≠ []) : (∃ st ∈ pts, gsum st (atS S c).g < L * p) ↔ (atS S c).low < L := by
  rw [G.below hc hp]
  exact ⟨fun h => h.elim id fun h => absurd h.1 hg, .inl⟩
theorem Grid.above' (G : Grid p S lo hi pts) (hc : c < S.length) (hp : ((atS S c).g.length : Int) + 1 ≤ p) : (∃ st ∈ pts, L * p < gsum st (atS S c).g) ↔ L < (atS S c).high := by
  have R := G.rg c hc
  constructor
  · rintro ⟨st, m, h⟩
    have q := G.pt st m c hc
    by_cases e : L < (atS S c).high
    · exact e
    · exfalso
      have := le_mul (p := p) (show (atS S c).high ≤ L by omega) (by omega)
      have := R.ha
      omega
  · intro h
    obtain ⟨st, m, q⟩ := G.al hi fun j hj => ⟨(G.rg j hj).le, Int.le_refl _⟩
    refine ⟨st, m, ?_⟩
    rw [q c hc]
    have := up_mul (p := p) h (by omega)
    have := R.hb
    omega
theorem Grid.span (G : Grid p S lo hi pts) (hc : c < S.length) (hp : 1 ≤ p) (hg : (atS S c).g ≠ []) : (atS S c).low < (atS S c).high := by
  have R := G.rg c hc
  have := R.som hg
  have := R.le
  by_cases e : (atS S c).low < (atS S c).high
  · exact e
  · exfalso
    have := le_mul (p := p) (show (atS S c).high ≤ (atS S c).low by omega) (by omega)
    omega
theorem glen_ne {g : List Int} (h : g ≠ []) : (1 : Int) ≤ g.length := by
  cases g with
  | nil => exact absurd rfl h
  | cons a r => simp only [List.length_cons]; omega
theorem Grid.cutLow (G : Grid p S lo hi pts) (hc : c < S.length) (hp : ((atS S c).g.length : Int) + 1 ≤ p) (h1 : (atS S c).low < L) (h2 : L < (atS S c).high) (a : Int) :
    Inside p (S.set c ((atS S c).atMost L a)) (pts.filter fun st => decide (gsum st (atS S c).g < L * p)) := by
  have R := G.rg c hc
  have hg : (atS S c).g ≠ [] := fun z => by have := R.non z; omega
  have g1 := glen_ne hg
  have m1 := up_mul (p := p) h1 (by omega)
  have m2 := up_mul (p := p) h2 (by omega)
  have := R.la; have := R.lb; have := R.ha; have := R.hb; have := R.le; have := R.som hg
  refine ⟨_, _, G.one (s := (atS S c).atMost L a) (l := lo c) (h := L * p - 1) hc rfl ?_ (Int.le_refl _) (by omega) fun st => ?_⟩
  · have e : ((atS S c).atMost L a).high = L := if_pos h2
    refine ⟨R.la, R.lb, by rw [e]; omega, ?_, by omega, fun z => absurd z hg, fun _ => ⟨by show (atS S c).low * p < _; omega, by rw [e]; omega⟩⟩
    rw [e]
    show L * p - ((atS S c).g.length : Int) ≤ _
    omega
  · show _ ↔ st ∈ pts ∧ lo c ≤ gsum st (atS S c).g ∧ gsum st (atS S c).g ≤ L * p - 1
    rw [List.mem_filter, decide_eq_true_iff]
    constructor
    · rintro ⟨m, q⟩
      have := G.pt st m c hc
      exact ⟨m, this.1, by omega⟩
    · rintro ⟨m, q1, q2⟩
      exact ⟨m, by omega⟩
theorem Grid.cutHigh (G : Grid p S lo hi pts) (hc : c < S.length) (hp : ((atS S c).g.length : Int) + 1 ≤ p) (h1 : (atS S c).low < L) (h2 : L < (atS S c).high) (a : Int) :
    Inside p (S.set c ((atS S c).atLeast L a)) (pts.filter fun st => decide (L * p < gsum st (atS S c).g)) := by
  have R := G.rg c hc
  have hg : (atS S c).g ≠ [] := fun z => by have := R.non z; omega
  have g1 := glen_ne hg
  have m1 := up_mul (p := p) h1 (by omega)
  have m2 := up_mul (p := p) h2 (by omega)
  have := R.la; have := R.lb; have := R.ha; have := R.hb; have := R.le; have := R.som hg
  refine ⟨_, _, G.one (s := (atS S c).atLeast L a) (l := L * p + 1) (h := hi c) hc rfl ?_ (by omega) (Int.le_refl _) fun st => ?_⟩
  · have e : ((atS S c).atLeast L a).low = L := if_pos h1
    refine ⟨by rw [e]; omega, ?_, R.ha, R.hb, by omega, fun z => absurd z hg, fun _ => ⟨by rw [e]; omega, by show _ < (atS S c).high * p; omega⟩⟩
    rw [e]
    show _ ≤ L * p + ((atS S c).g.length : Int)
    omega
  · show _ ↔ st ∈ pts ∧ L * p + 1 ≤ gsum st (atS S c).g ∧ gsum st (atS S c).g ≤ hi c
    rw [List.mem_filter, decide_eq_true_iff]
    constructor
    · rintro ⟨m, q⟩
      have := G.pt st m c hc
      exact ⟨m, by omega, this.2⟩
    · rintro ⟨m, q1, q2⟩
      exact ⟨m, by omega⟩
/-- another number to it, nothing else -/
theorem Grid.again (G : Grid p S lo hi pts) (hc : c < S.length) {s : Sh} (e1 : s.g = (atS S c).g) (e2 : s.low = (atS S c).low) (e3 : s.high = (atS S c).high) : Inside p (S.set c s) pts := by
  have R := G.rg c hc
  refine ⟨_, _, G.one (s := s) (l := lo c) (h := hi c) hc e1 ⟨by rw [e2]; exact R.la, by rw [e1, e2]; exact R.lb, by rw [e3]; exact R.ha, by rw [e1, e3]; exact R.hb, R.le, by rw [e1, e2, e3]; exact R.non, by rw [e1, e2, e3]; exact R.som⟩ (Int.le_refl _) (Int.le_refl _) fun st => ?_⟩
  rw [e1]
  exact ⟨fun m => ⟨m, G.pt st m c hc⟩, fun m => m.1⟩
theorem most_high {s : Sh} {L a : Int} (h : s.high ≤ L) : (s.atMost L a).high = s.high := if_neg (by omega)
theorem least_low {s : Sh} {L a : Int} (h : L ≤ s.low) : (s.atLeast L a).low = s.low := if_neg (by omega)
end
/-- what the law's own look at the starts within tells of a deed -/
structure Look (p : Int) (caps : List Int) (d : D) (S : List Sh) (pts : List (List Int)) : Prop where
  non : (d.share S).g = [] → (d.share S).low = 0 ∧ (d.share S).high = 0
  span : (d.share S).g ≠ [] → (d.share S).low < (d.share S).high
  below : (d.share S).g ≠ [] → ((∃ st ∈ pts, gsum st (d.share S).g < d.limit caps S * p) ↔ (d.share S).low < d.limit caps S)
  above : (∃ st ∈ pts, d.limit caps S * p < gsum st (d.share S).g) ↔ d.limit caps S < (d.share S).high
  one : (d.share S).low < d.limit caps S → d.limit caps S < (d.share S).high → Inside p (d.way1 caps S) (pts.filter fun st => decide (gsum st (d.share S).g < d.limit caps S * p))
  two : (d.share S).low < d.limit caps S → d.limit caps S < (d.share S).high → Inside p (d.way2 caps S) (pts.filter fun st => decide (d.limit caps S * p < gsum st (d.share S).g))
  all1 : (d.share S).high ≤ d.limit caps S → Inside p (d.way1 caps S) pts
  all2 : d.limit caps S ≤ (d.share S).low → Inside p (d.way2 caps S) pts
theorem look {p : Int} {caps : List Int} {d : D} {S : List Sh} {pts : List (List Int)} (hl : S.length = caps.length) (ok : d.ok caps) (hp : (glen S : Int) + 1 ≤ p) (h : Inside p S pts) (nc : d.ischange = false) : Look p caps d S pts := by
  obtain ⟨lo, hi, G⟩ := h
  have gl : ∀ i, i < S.length → ((atS S i).g.length : Int) + 1 ≤ p := fun i hi => by have := glen_at hi; omega
  cases d with
  | change a b => cases nc
  | put a k =>
    have ha : a < S.length := by rw [hl]; exact ok.1
    exact ⟨(G.rg a ha).non, G.span ha (by have := gl a ha; omega), G.below' ha (gl a ha), G.above' ha (gl a ha), fun h1 h2 => G.cutLow ha (gl a ha) h1 h2 _, fun h1 h2 => by
        obtain ⟨lo', hi', G'⟩ := G.cutHigh ha (gl a ha) h1 h2 0
        have := G'.drop (at0 caps a) (i := a) (by simpa using ha)
        rw [List.set_set] at this
        exact ⟨_, _, this⟩, fun h => G.again ha rfl rfl (most_high h), fun _ => ⟨_, _, G.drop _ ha⟩⟩
  | draw a k =>
    have ha : a < S.length := by rw [hl]; exact ok.1
    exact ⟨(G.rg a ha).non, G.span ha (by have := gl a ha; omega), G.below' ha (gl a ha), G.above' ha (gl a ha), fun h1 h2 => by
        obtain ⟨lo', hi', G'⟩ := G.cutLow ha (gl a ha) h1 h2 0
        have := G'.drop 0 (i := a) (by simpa using ha)
        rw [List.set_set] at this
        exact ⟨_, _, this⟩, fun h1 h2 => G.cutHigh ha (gl a ha) h1 h2 _, fun _ => ⟨_, _, G.drop _ ha⟩, fun h => G.again ha rfl (least_low h) rfl⟩
  | pour a b =>
    have ha : a < S.length := by rw [hl]; exact ok.1
    have hb : b < S.length := by rw [hl]; exact ok.2.1
    have n := ok.2.2
    have two := glen_two ha hb n
    have Ga := G.tog (s := (atS S a).tog (atS S b)) 0 ha hb n (srtI_perm _) rfl rfl
    have Gb := G.tog (s := (atS S a).tog (atS S b)) (at0 caps b) hb ha (Ne.symm n) ((srtI_perm _).trans List.perm_append_comm) (Int.add_comm _ _) (Int.add_comm _ _)
    have la : b < ((S.set a (Sh.none 0)).set b ((atS S a).tog (atS S b))).length := by simpa using hb
    have lb : a < ((S.set b (Sh.none (at0 caps b))).set a ((atS S a).tog (atS S b))).length := by simpa using ha
    have ea : atS ((S.set a (Sh.none 0)).set b ((atS S a).tog (atS S b))) b = (atS S a).tog (atS S b) := by rw [atS_set (by simpa using hb), if_pos rfl]
    have eb : atS ((S.set b (Sh.none (at0 caps b))).set a ((atS S a).tog (atS S b))) a = (atS S a).tog (atS S b) := by rw [atS_set (by simpa using ha), if_pos rfl]
    have gt : (((atS S a).tog (atS S b)).g.length : Int) + 1 ≤ p := by rw [tog_len]; omega
    refine ⟨?_, ?_, ?_, ?_, fun h1 h2 => ?_, fun h1 h2 => ?_, fun h => ?_, fun h => ?_⟩
    · have := (Ga.rg b la).non
      rw [ea] at this
      exact this
    · have := Ga.span la (by omega)
      rw [ea] at this
      exact this
    · intro hg
      have := Ga.below' (L := (D.pour a b).limit caps S) la (by rw [ea]; exact gt) (by rw [ea]; exact hg)
      rw [ea] at this
      exact this
    · have := Ga.above' (L := (D.pour a b).limit caps S) la (by rw [ea]; exact gt)
      rw [ea] at this
      exact this
    · have := Ga.cutLow (L := (D.pour a b).limit caps S) la (by rw [ea]; exact gt) (by rw [ea]; exact h1) (by rw [ea]; exact h2) 0
      rw [ea, List.set_set] at this
      exact this
    · have := Gb.cutHigh (L := (D.pour a b).limit caps S) lb (by rw [eb]; exact gt) (by rw [eb]; exact h1) (by rw [eb]; exact h2) (-(at0 caps b))
      rw [eb, List.set_set, List.set_comm _ _ (Ne.symm n)] at this
      exact this
    · have := Ga.again la (s := ((atS S a).tog (atS S b)).atMost ((D.pour a b).limit caps S) 0) (by rw [ea]; rfl) (by rw [ea]; rfl) (by rw [ea]; exact most_high h)
      rw [List.set_set] at this
      exact this
    · have := Gb.again lb (s := ((atS S a).tog (atS S b)).atLeast ((D.pour a b).limit caps S) (-(at0 caps b))) (by rw [eb]; rfl) (by rw [eb]; exact least_low h) (by rw [eb]; rfl)
      rw [List.set_set, List.set_comm _ _ (Ne.symm n)] at this
      exact this
theorem inside_swap {p : Int} {caps : List Int} {a b : Nat} {S : List Sh} {pts : List (List Int)} (hl : S.length = caps.length) (ok : (D.change a b).ok caps) (h : Inside p S pts) : Inside p ((D.change a b).only caps S) pts := by
  obtain ⟨lo, hi, G⟩ := h
  exact ⟨_, _, G.swap (by rw [hl]; exact ok.1) (by rw [hl]; exact ok.2.1) ok.2.2.1⟩
/-! ### groups stay few -/
theorem few_way1 {caps : List Int} {d : D} {l : List Sh} (hl : l.length = caps.length) (ok : d.ok caps) : glen (d.way1 caps l) ≤ glen l := by
  cases d with
  | pour a b =>
    obtain ⟨h1, h2, h3⟩ := ok
    refine set2_few (by omega) (by omega) h3 ?_
    show 0 + ((atS l a).tog (atS l b)).g.length ≤ _
    rw [tog_len]
    omega
  | put a k => exact set_few (by have := ok.1; omega) (Nat.le_refl _)
  | draw a k => exact set_few (by have := ok.1; omega) (Nat.zero_le _)
  | change a k => exact set_few (by have := ok.1; omega) (Nat.zero_le _)
theorem few_way2 {caps : List Int} {d : D} {l : List Sh} (hl : l.length = caps.length) (ok : d.ok caps) : glen (d.way2 caps l) ≤ glen l := by
  cases d with
  | pour a b =>
    obtain ⟨h1, h2, h3⟩ := ok
    refine set2_few (by omega) (by omega) h3 ?_
    show ((atS l a).tog (atS l b)).g.length + 0 ≤ _
    rw [tog_len]
    omega
  | put a k => exact set_few (by have := ok.1; omega) (Nat.zero_le _)
  | draw a k => exact set_few (by have := ok.1; omega) (Nat.le_refl _)
  | change a k => exact set_few (by have := ok.1; omega) (Nat.le_refl _)
theorem few_only {caps : List Int} {d : D} {l : List Sh} (hl : l.length = caps.length) (ok : d.ok caps) : glen (d.only caps l) ≤ glen l := by
  cases d with
  | change a b => exact set2_few (by have := ok.1; omega) (by have := ok.2.1; omega) ok.2.2.1 (by omega)
  | pour a b => show glen (if _ then _ else _) ≤ _; split; exact few_way1 hl ok; exact few_way2 hl ok
  | put a b => show glen (if _ then _ else _) ≤ _; split; exact few_way1 hl ok; exact few_way2 hl ok
  | draw a b => show glen (if _ then _ else _) ≤ _; split; exact few_way1 hl ok; exact few_way2 hl ok
/-- at the start -/
theorem inside_first {p : Int} {caps : List Int} {pts : List (List Int)} (hp : 2 ≤ p) (hc : ∀ i, i < caps.length → 1 ≤ at0 caps i) (h : ∀ st, st.length = caps.length → (st ∈ pts ↔ ∀ i, i < caps.length → 1 ≤ at0 st i ∧ at0 st i ≤ at0 caps i * p - 1)) (hl : ∀ st ∈ pts, st.length = caps.length) :
    Inside p (firstShares caps) pts := by
  have ln := firstShares_len caps
  have at_ : ∀ i, i < caps.length → atS (firstShares caps) i = ⟨[(i : Int)], 0, 0, at0 caps i⟩ := fun i hi => atS_of (by unfold firstShares; rw [List.getElem?_map, List.getElem?_range hi]; rfl)
  have gs : ∀ st i, i < caps.length → gsum st (atS (firstShares caps) i).g = at0 st i := fun st i hi => by
    rw [at_ i hi]
    show (at0 st ((i : Int).toNat) + 0) = _
    rw [Int.add_zero, Int.toNat_natCast]
  have c1 : ∀ i, i < caps.length → p ≤ at0 caps i * p := fun i hi => by
    have := le_mul (p := p) (hc i hi) (by omega)
    omega
  refine ⟨fun _ => 1, fun i => at0 caps i * p - 1, fun i hi => ?_, fun st hst i hi => ?_, fun t ht => ?_⟩
  · rw [ln] at hi
    rw [at_ i hi]
    have := c1 i hi
    refine ⟨by show 0 * p ≤ 1; omega, by show (1 : Int) ≤ 0 * p + 1; omega, by show _ - 1 ≤ at0 caps i * p; omega, by show at0 caps i * p - 1 ≤ _; omega, by omega, fun z => (by cases z), fun _ => ⟨by show 0 * p < 1; omega, by show _ - 1 < at0 caps i * p; omega⟩⟩
  · rw [ln] at hi
    rw [gs st i hi]
    exact (h st (hl st hst)).mp hst i hi
  · rw [ln] at ht
    have a0 : ∀ i, i < caps.length → at0 ((List.range caps.length).map t) i = t i := fun i hi => at0_of (by rw [List.getElem?_map, List.getElem?_range hi]; rfl)
    refine ⟨(List.range caps.length).map t, (h _ (by simp)).mpr fun i hi => by rw [a0 i hi]; exact ht i hi, fun i hi => ?_⟩
    rw [ln] at hi
    rw [gs _ i hi, a0 i hi]
end Kp

namespace KpR
open PySem PySem.Spec PyProof.Rows L2
open AutoSeq1 (wpAny_loadPart')
/-! ### xs + ys, each a list that can be read -/
theorem addMeets (l b : Addr) (xs ys : Array Value) (n m : Nat) (sl tl : Array (Option Value)) (hsz : xs.size + ys.size ≤ sizeLine) :
    Meets (Builtin.«list.__add__» ⟨[.ref l, .ref b], []⟩) (fun _ R s =>
      s.heap.get? l = some { cls := .type "list", dict := none, data := .seq xs n, slots := sl } ∧
      s.heap.get? b = some { cls := .type "list", dict := none, data := .seq ys m, slots := tl } ∧
      R (.ok (.ret (.ref s.heap.objs.size))) { s with heap := s.heap.push { cls := .type "list", data := .seq (xs ++ ys) } }) :=
  .of_wp fun prog w A R s h => by
    obtain ⟨hp, g, d, tk, os⟩ := s
    obtain ⟨e1, e2, h⟩ := h
    have z1 := AutoSeq1.idx_int
    have z2 := AutoSeq1.sub_tuple_tuple
    have z3 := AutoSeq1.sub_list_list
    have z4 := AutoSeq1.sub_tuple_list
    have z5 := AutoSeq1.sub_list_tuple
    wp_walk using wpAny_loadPart' e1, wpAny_loadPart' e2
    exact ⟨_, rfl, h⟩
theorem enumNewT (l : Addr) (its : Array Value) (n : Nat) (dct : Option Addr) (sl : Array (Option Value)) :
    Meets (Builtin.«enumerate.__new__» ⟨[.type "enumerate", .ref l], []⟩) (fun _ R s =>
      s.heap.get? l = some { cls := .type "tuple", dict := dct, data := .seq its n, slots := sl } ∧
      R (.ok (.ret (.ref (s.heap.push { cls := .type "tuple_iterator", data := .fields #[.ref l, .int 0 0] }).objs.size)))
        { s with heap := Heap.push (Heap.push s.heap { cls := .type "tuple_iterator", data := .fields #[.ref l, .int 0 0] }) { cls := .type "enumerate", data := .fields #[.none, .bool false, .ref s.heap.objs.size, rawInt 0, .none, .none] } }) :=
  .of_wp fun prog w A R s h => by
    obtain ⟨hp, g, d, tk, os⟩ := s
    obtain ⟨hl, h⟩ := h
    have hsub := sub_enumerate
    have hL : Heap.IsTuple (Shared.heap ⟨hp, g, d, tk, os⟩) l its := ⟨_, hl, rfl, n, rfl⟩
    wp_walk using wpAny_loadPart' hl
    refine wpAny_stack_any fun st => wpAny_pure ?_
    split
    · rename_i c _ _ _ _ _
      cases (c == Value.type "enumerate") <;>
        (wp_walk using wpAny_loadPart' hl, wpAny_pyIter_tuple hL
         exact ⟨_, rfl, h⟩)
    · wp_walk using wpAny_loadPart' hl, wpAny_pyIter_tuple hL
      exact ⟨_, rfl, h⟩
end KpR

namespace KpR
open PySem PySem.Spec PyProof.Rows L2
open AutoSeq1 (wpAny_loadPart')
def rCatR (K : PySem.W.Frag) : R2 := fun x y H Q => ∃ l b xs zs, x = .ref l ∧ y = .ref b ∧ SqL K H l xs ∧ SqL K H b zs ∧ xs.length + zs.length ≤ sizeLine ∧ ∀ q, H q = none → Q (.ref q) (upd H q (.lst (xs ++ zs)))
section
variable {X : Cx}
theorem op_catR : OpR X (binaryOp .Add) (rCatR X.K) := by
  intro pins s σ H x y v u Q I rx ry h
  obtain ⟨l, b, xs, zs, rfl, rfl, h1, h2, hz, q⟩ := h
  cases rx
  cases ry
  obtain ⟨its, r1, p1, _⟩ := I.list h1
  obtain ⟨jts, r2, p2, _⟩ := I.list h2
  obtain ⟨⟨c1, d1, t1, s1⟩, n1, g1, k1, k2, k3⟩ := p1
  obtain ⟨⟨c2, d2, t2, s2⟩, n2, g2, k4, k5, k6⟩ := p2
  cases k1; cases k2; cases k3; cases k4; cases k5; cases k6
  have e1 := r1.length
  have e2 := r2.length
  refine concat_meets ⟨_, g1, rfl⟩ ⟨_, g2, rfl⟩ noFill_list_add seq_list_add F.slot_list_add F.entry_list_add (F.args_list_add_2 _ _)
    (addMeets l b its.toArray jts.toArray n1 n2 s1 s2 (by rw [List.size_toArray, List.size_toArray]; omega)) ⟨g1, g2, ?_⟩
  have ea : its.toArray ++ jts.toArray = (its ++ jts).toArray := by simp
  rw [ea]
  exact ⟨.ref _, _, I.lnew (t' := s.toks) (r1.append r2) (by rw [List.length_append]; omega), rfl, q _ I.fresh⟩
end
/-! ### enumerate(tuple) -/
theorem drawsT {prog : Program} {w : World} {A : Around} (hh : A.handled = none) (it l : Addr) (hne : l ≠ it) (its : Array Value) :
    Draws prog w A it [it, l] its.size (fun i v => its[i]? = some v) (fun i h => h.IsTupleIter it l i ∧ h.IsTuple l its) where
  live := fun _ _ st => by
    obtain ⟨⟨o, ho, _⟩, _⟩ := st
    exact ⟨o, ho⟩
  frame := fun _ _ _ st kp => ⟨st.1.at fun o e => kp it (by simp) o e, st.2.at fun o e => kp l (by simp) o e⟩
  item := fun i s Q E hi st hQ => by
    refine RZ.nextOf_tuple_item st.1 st.2 (x := its[i]) (by simp [hi]) fun h1 hit1 hs1 => ?_
    exact hQ _ h1 s.toks (by simp [hi]) ⟨hit1, st.2.extBut hs1.extBut hne⟩ hs1
  done := fun s Q E st hE => RZ.nextOf_tuple_end hh st.1 st.2 (by simp) hE
section
variable {prog : Program} {w : World} {A : Around} {E : Value → Shared → Prop} {s : Shared}
theorem callEnumT {l : Addr} {its : Array Value} {Q : Value → Shared → Prop} (hL : s.heap.IsTuple l its)
    (h : ∀ h', IsEnum h' (s.heap.objs.size + 1) s.heap.objs.size 0 .none → h'.IsTupleIter s.heap.objs.size l 0 → h'.IsTuple l its →
      (∀ b o, s.heap.get? b = some o → h'.get? b = some o) → Q (.ref (s.heap.objs.size + 1)) { s with heap := h' }) :
    wpAny (model prog w) A (call (.type "enumerate") [.ref l]) Q E s := by
  obtain ⟨⟨c, dct, dt, sl⟩, hl, hc, n, hd⟩ := id hL
  cases hc
  cases hd
  refine callType_new F.called_enumerate (by decide) (F.typeCall_enumerate_1 _) (F.newCall_enumerate_1 _) (fun obj => F.args_object_init_2 obj _) F.entry_enumerate_new
    (enumNewT l its n dct sl) ⟨hl, ?_⟩
  have hz : (s.heap.push { cls := .type "tuple_iterator", data := .fields #[.ref l, .int 0 0] }).objs.size = s.heap.objs.size + 1 := Heap.size_push ..
  show _ ∧ _
  rw [hz]
  have he : IsEnum ((s.heap.push { cls := .type "tuple_iterator", data := .fields #[.ref l, .int 0 0] }).push
      { cls := .type "enumerate", data := .fields #[.none, .bool false, .ref s.heap.objs.size, rawInt 0, .none, .none] }) (s.heap.objs.size + 1) s.heap.objs.size 0 .none := by
    have q := Heap.get?_push_size (s.heap.push { cls := .type "tuple_iterator", data := .fields #[.ref l, .int 0 0] })
      (o := { cls := .type "enumerate", data := .fields #[.none, .bool false, .ref s.heap.objs.size, rawInt 0, .none, .none] }) rfl
    rw [hz] at q
    exact q
  exact ⟨⟨_, he, rfl⟩, h _ he ⟨_, Heap.get?_push_of_some _ (Heap.get?_push_size _ (by rfl)), by rfl, by rfl⟩ ((hL.push _).push _) fun b o x => Heap.get?_push_of_some _ (Heap.get?_push_of_some _ x)⟩
end
/-- the tuple at a: each item in a new pair -/
def IteT (K : PySem.W.Frag) (a : Addr) : It where
  go := fun i H => ∃ (xs : List V) (x : V), SqT K H a xs ∧ xs[i]? = some x
  yld := fun i H v H' => ∃ T x, v = .ref T ∧ H T = none ∧ H' = upd H T (.tup [.int (i : Nat), x]) ∧ ∀ xs, SqT K H a xs → xs[i]? = some x
  stop := fun i H => ∃ xs : List V, SqT K H a xs ∧ xs.length = i
theorem turnEnumT {P : Program} {w : World} {K : PySem.W.Frag} {elts : List Expr} {kk : Nat} {tpos : Pos} (a e it : Addr) :
    Turn P w K (.Tuple elts kk tpos) (IteT K a) [e, it] e (fun i h => (∃ old, IsEnum h e it ((i : Nat) : Int) old) ∧ h.IsTupleIter it a i ∧ e ≠ it ∧ a ≠ it ∧ e ≠ a) where
  mem := by simp
  obj := fun i h st b hb => by
    obtain ⟨⟨old, he⟩, ⟨o, ho, hc, hd⟩, _⟩ := st
    rcases (show b = e ∨ b = it by simpa using hb) with z | z
    · subst z
      exact ⟨_, he, fun v q => nomatch q⟩
    · subst z
      exact ⟨o, ho, fun v q => by rw [hd] at q; cases q⟩
  keep := fun i h h' st k => by
    obtain ⟨⟨old, he⟩, hi, r⟩ := st
    exact ⟨⟨old, k e (by simp) _ he⟩, hi.at fun o q => k it (by simp) o q, r⟩
  item := by
    intro X hP hw hK hc i pins s σ H E I hf st hg
    subst hP hw hK
    obtain ⟨⟨old, he⟩, hit, hne, hai, hea⟩ := st
    obtain ⟨xs, x, hq, hx⟩ := hg
    obtain ⟨its, rv, p, hz⟩ := I.tuple hq
    obtain ⟨u, hu, ru⟩ := rv.get hx
    have el : e < s.heap.objs.size := Heap.lt_size he
    have il : it < s.heap.objs.size := by
      obtain ⟨_, q, _⟩ := hit
      exact Heap.lt_size q
    have hlt : i < its.toArray.size := by
      have := (List.getElem?_eq_some_iff.mp hu).1
      simpa using this
    refine wpAny_pyNext_enum_itemD (drawsT (A := X.A.in1) (I.ok.hd hc) it a hai its.toArray) he ⟨hit, p⟩ hlt hne (by simp; exact ⟨hne, hea⟩) fun y h' tk hy ho st' hT hsz hk => ?_
    obtain rfl : y = u := by
      have q : its.toArray[i]? = some u := by simpa using hu
      rw [q] at hy
      exact (Option.some.inj hy).symm
    refine ⟨_, rfl, wpAny_letOwnedTupleGo_enum (s := { s with heap := h', toks := tk + 1 }) ho fun h2 he2 sb => ?_⟩
    have hT2 : h2.get? s.heap.objs.size = some { cls := .type "tuple", data := .seq #[.int i tk, y] } := (sb.2 _ (Nat.ne_of_gt el)).trans hT
    have new : ObjOk X.prog X.w (upd H s.heap.objs.size (.tup [.int (i : Nat), x])) h2 s.heap.objs.size (.tup [.int (i : Nat), x]) :=
      ⟨by show 2 ≤ sizeLine; decide, [.int i tk, y], .cons ⟨_, rfl⟩ (.cons ru .nil), ⟨_, hT2, rfl, _, rfl⟩⟩
    have I1 : Inv X pins σ (upd H s.heap.objs.size (.tup [.int (i : Nat), x])) { s with heap := h2, toks := tk + 1 } :=
      I.turnedNew (ch := [e, it]) (fun b ob hb q => (sb.2 b (fun z => hb (by simp [z]))).trans (hk b ob (fun z => hb (by simp [z])) (fun z => hb (by simp [z])) q)) hf (Nat.le_refl _) new
    refine ⟨.ref s.heap.objs.size, _, I1, rfl, ⟨_, x, rfl, I.hok.fresh (Nat.le_refl _), rfl, fun ys hy2 => by rw [I.tuple_inj hy2 hq]; exact hx⟩, ⟨⟨y, ?_⟩, st'.1.at fun o q => (sb.2 it (Ne.symm hne)).trans q, hne, hai, hea⟩, fun b hb => ?_⟩
    · have e1 : ((i + 1 : Nat) : Int) = (i : Int) + 1 := by omega
      rw [e1]
      exact he2
    · have hb2 : b < s.heap.objs.size := by
        rcases (show b = e ∨ b = it by simpa using hb) with z | z
        · rw [z]; exact el
        · rw [z]; exact il
      rw [upd_ne (Nat.ne_of_lt hb2)]
      exact (hf b hb).1
  done := by
    intro X hP hw hK hc i pins s σ H E I hf st hg
    subst hP hw hK
    obtain ⟨⟨old, he⟩, hit, hne, hai, hea⟩ := st
    obtain ⟨xs, hq, hx⟩ := hg
    obtain ⟨its, rv, p, hz⟩ := I.tuple hq
    obtain ⟨f0, f1, f2, f3, f4, f5⟩ := hf it (by simp)
    have hl := rv.length
    have hiEq : i = its.toArray.size := by
      rw [List.size_toArray]
      omega
    subst hiEq
    exact wpAny_pyNext_enum_endD (drawsT (A := X.A.in1) (I.ok.hd hc) it a hai its.toArray) he ⟨hit, p⟩ fun h' eb => ⟨rfl, I.turned (t' := s.toks) (fun b o hb q => eb b o hb q) f0 f1 f3 f4 f5⟩
  self := fun A i s Q E st h => by
    obtain ⟨⟨_, he⟩, _⟩ := st
    exact wpAny_pyIter_enum he h
def iEnumT (K : PySem.W.Frag) (ta : TA) : TI := fun σ H R => ta σ H fun vs H1 => ∃ a xs, vs = [.ref a] ∧ SqT K H1 a xs ∧ R (IteT K a) H1
theorem pi_enumT {X : Cx} {e : Expr} {ta : TA} {p pos tpos : Pos} {elts : List Expr} {kk : Nat} (hg : Gl X "enumerate") (hm : X.mg "enumerate" = none) (ha : PA X [e] ta) (hs : starEach [e] X.env = [(false, eval e X.env)] := by rfl) :
    PI X (.Tuple elts kk tpos) (.Call (.Name "enumerate" p) [e] [] pos) (iEnumT X.K ta) := by
  refine ⟨fun pins s σ H R I h => ?_⟩
  refine Call_ (ld_blt I hg hm boot_enumerate (PyProof.Rows.callWith_type1 (thn (ha.run pos pins s σ H _ I h) fun us s1 ⟨vs, H1, I1, r1, a, xs, ex, hq, q⟩ => ?_) hs rfl))
  subst ex
  cases r1 with
  | cons r rr =>
    cases rr
    cases r
    obtain ⟨its, rv, p1, hz⟩ := I1.tuple hq
    refine callEnumT p1 fun h1 he hit hT hk => wpAny_pyIter_enum he ?_
    have al : a < s1.heap.objs.size := by
      obtain ⟨o, ho, _⟩ := p1
      exact Heap.lt_size ho
    have I2 : Inv X pins σ H1 { s1 with heap := h1 } := I1.kept (t' := s1.toks) hk
    refine ⟨s1.heap.objs.size + 1, [s1.heap.objs.size + 1, s1.heap.objs.size], _, _, H1, rfl, I2, turnEnumT a (s1.heap.objs.size + 1) s1.heap.objs.size, ⟨⟨.none, he⟩, hit, Nat.succ_ne_self _, Nat.ne_of_lt al, Nat.ne_of_gt (Nat.lt_succ_of_lt al)⟩, fun b hb => ?_, q⟩
    have le : s1.heap.objs.size ≤ b := by
      rcases (show b = s1.heap.objs.size + 1 ∨ b = s1.heap.objs.size by simpa using hb) with z | z
      · rw [z]
        exact Nat.le_succ _
      · rw [z]
        exact Nat.le_refl _
    exact I1.fpOk le (I1.hok.fresh le)
/-- the loop's bookkeeping: the pair is a new tuple at T -/
theorem for_enumT {K : PySem.W.Frag} {a : Addr} {xs : List V} {g : TG} {tb : TS} {D : Ends} {σ : L2.St} {H : Hp} (Pv : Nat → L2.St → Hp → Prop) (h0 : Pv 0 σ H) (hl : ∀ i σ H, i ≤ xs.length → Pv i σ H → SqT K H a xs)
    (hs : ∀ i x T σ H, xs[i]? = some x → Pv i σ H → H T = none → g (.ref T) σ (upd H T (.tup [.int (i : Nat), x])) fun σ2 H2 => tb { D with nx := Pv (i + 1), ct := Pv (i + 1), bk := D.nx } σ2 H2) (hd : ∀ σ H, Pv xs.length σ H → D.nx σ H) :
    ∃ W : Nat → Nat → L2.St → Hp → Prop, (∃ m, W 0 m σ H) ∧ ∀ i m σ H, W i m σ H →
      ((IteT K a).stop i H ∧ D.nx σ H) ∨ ((IteT K a).go i H ∧ ∃ N : L2.St → Hp → Prop, (∀ σ' H', N σ' H' → ∃ m', m' < m ∧ W (i + 1) m' σ' H') ∧ ∀ x H', (IteT K a).yld i H x H' → g x σ H' fun σ2 H2 => tb { D with nx := N, ct := N, bk := D.nx } σ2 H2) := by
  refine ⟨fun i m σ H => m = xs.length - i ∧ i ≤ xs.length ∧ Pv i σ H, ⟨xs.length, by simp, Nat.zero_le _, h0⟩, ?_⟩
  rintro i m σ1 H1 ⟨rfl, hi, p⟩
  by_cases e : i = xs.length
  · subst e
    exact .inl ⟨⟨xs, hl _ _ _ hi p, rfl⟩, hd _ _ p⟩
  · have lt : i < xs.length := by omega
    have ge : xs[i]? = some xs[i] := List.getElem?_eq_getElem lt
    refine .inr ⟨⟨xs, xs[i], hl _ _ _ hi p, ge⟩, Pv (i + 1), fun σ2 H2 q => ⟨xs.length - (i + 1), by omega, rfl, by omega, q⟩, ?_⟩
    rintro x H2 ⟨T, y, rfl, hT, rfl, hy⟩
    have q := hy xs (hl _ _ _ hi p)
    exact hs i y T σ1 H1 q p hT
/-! ### f(k = v, ..): keywords alone -/
theorem pe_callN0 {X : Cx} {CX : CXT} {k : Nat} {f : Addr} {fd : FuncData} {ps ks : List Str} {sp : Sp} {E : XK} {x : Str} {p pos : Pos} {kws : List Keyword} {tk : TA} {g : List Value → List Value → List Value} {gV : List V → List V → List V}
    (F : FnOk X.prog X.w X.K X.mg X.base CX k f fd ps sp) (hr : Room k X.A) (hg : Gl X x) (hm : X.mg x = some (.ref f)) (hk : PySem.W.keepIn X.K (.ref f) = true) (hb : KBn X.K fd ps 0 ks g gV) (hx : Passes CX X E) (hkw : PK X kws tk)
    (hall : (backToKw pos (keywordEach kws X.env)).all (·.1.isSome) = true := by rfl) (hks : (backToKw pos (keywordEach kws X.env)).filterMap (·.1) = ks := by rfl) (hdb : (x == ("__debug__" : Str)) = false := by decide)
    (hpl : ((backTo pos (starEach [] X.env)).any (·.1) || (backToKw pos (keywordEach kws X.env)).any (·.1.isNone)) = false := by rfl) :
    PE X (.Call (.Name x p) [] kws pos) (tCallN 0 ks.length sp gV E tNil tk) := by
  refine ⟨fun pins s σ H Q I h => ?_⟩
  refine wpAny_Call_Name_kw (ld_glob I hg hm ?_ hdb)
  refine PySem.W.callWith_KW0 (h₀ := X.base) I.ok.mod.kin hk hall (thn (hkw.run pos pins s σ H _ I h) fun ws s2 ⟨zs, H2, I2, rz, l1, l2, q2⟩ => ⟨I2.kIn, ?_⟩) hpl
  rw [hks]
  exact run_fnN (us := []) (vs := []) F hr hb hx I2 .nil rz rfl l2 q2
/-! ### isinstance's answers -/
theorem kit_self {K : PySem.W.Frag} {t : Value} (h : (t == t) = true) : PySem.W.kitOne K t t = some true := by
  unfold PySem.W.kitOne
  rw [if_pos h]
theorem kit_cls {K : PySem.W.Frag} {A C : Addr} {b : Bool} (h1 : PySem.W.isClsIn K C = true) (h2 : PySem.W.typeIn K (.ref C) = some (.type "type")) (h3 : PySem.W.subIn K (.ref A) (.ref C) = some b) (ne : (Value.ref A == Value.ref C) = false) :
    PySem.W.kitOne K (.ref A) (.ref C) = some b := by
  unfold PySem.W.kitOne
  rw [if_neg (by rw [ne]; exact Bool.false_ne_true)]
  show (if ((PySem.W.clsIn K C).isSome && PySem.W.typeIn K (.ref C) == some (.type "type")) = true then PySem.W.subIn K (.ref A) (.ref C) else none) = some b
  have h1' : (PySem.W.clsIn K C).isSome = true := h1
  rw [h1', h2, if_pos (by rfl)]
  exact h3
/-! ### lists of things that stand in the heap -/
def A2 {α : Type} (R : V → α → Prop) : List V → List α → Prop
  | [], [] => True
  | v :: vs, d :: ds => R v d ∧ A2 R vs ds
  | _, _ => False
section
variable {α : Type} {R S : V → α → Prop}
theorem A2.len : ∀ {vs : List V} {ds : List α}, A2 R vs ds → vs.length = ds.length
  | [], [], _ => rfl
  | _ :: _, _ :: _, h => congrArg (· + 1) (A2.len h.2)
  | [], _ :: _, h => h.elim
  | _ :: _, [], h => h.elim
theorem A2.mono (f : ∀ v d, R v d → S v d) : ∀ {vs : List V} {ds : List α}, A2 R vs ds → A2 S vs ds
  | [], [], _ => trivial
  | _ :: _, _ :: _, h => ⟨f _ _ h.1, A2.mono f h.2⟩
  | [], _ :: _, h => h.elim
  | _ :: _, [], h => h.elim
theorem A2.get : ∀ {vs : List V} {ds : List α} {i : Nat} {v : V}, A2 R vs ds → vs[i]? = some v → ∃ d, ds[i]? = some d ∧ R v d
  | [], [], i, v, _, e => by simp at e
  | w :: _, d :: _, 0, v, h, e => by
    have : w = v := by simpa using e
    exact ⟨d, rfl, this ▸ h.1⟩
  | _ :: _, _ :: _, i + 1, v, h, e => by
    obtain ⟨d, e1, r⟩ := A2.get (i := i) h.2 (by simpa using e)
    exact ⟨d, by simpa using e1, r⟩
  | [], _ :: _, _, _, h, _ => h.elim
  | _ :: _, [], _, _, h, _ => h.elim
theorem A2.app : ∀ {vs ws : List V} {ds es : List α}, A2 R vs ds → A2 R ws es → A2 R (vs ++ ws) (ds ++ es)
  | [], _, [], _, _, k => k
  | _ :: _, _, _ :: _, _, h, k => ⟨h.1, A2.app h.2 k⟩
  | [], _, _ :: _, _, h, _ => h.elim
  | _ :: _, _, [], _, h, _ => h.elim
theorem A2.take : ∀ {vs : List V} {ds : List α} (n : Nat), A2 R vs ds → A2 R (vs.take n) (ds.take n)
  | vs, ds, 0, _ => by simp [A2]
  | [], [], n + 1, _ => trivial
  | _ :: _, _ :: _, n + 1, h => ⟨h.1, A2.take n h.2⟩
  | [], _ :: _, _ + 1, h => h.elim
  | _ :: _, [], _ + 1, h => h.elim
theorem A2.drop : ∀ {vs : List V} {ds : List α} (n : Nat), A2 R vs ds → A2 R (vs.drop n) (ds.drop n)
  | vs, ds, 0, h => by simpa using h
  | [], [], n + 1, _ => trivial
  | _ :: _, _ :: _, n + 1, h => A2.drop n h.2
  | [], _ :: _, _ + 1, h => h.elim
  | _ :: _, [], _ + 1, h => h.elim
end
/-! ### heaps -/
/-- all that was tracked, but what stands at w, is as it was -/
def Fr (w : Addr) (H H' : Hp) : Prop := ∀ b o, b ≠ w → H b = some o → H' b = some o
theorem Fr.refl (w : Addr) (H : Hp) : Fr w H H := fun _ _ _ h => h
theorem Fr.trans {w : Addr} {H H1 H2 : Hp} (a : Fr w H H1) (b : Fr w H1 H2) : Fr w H H2 := fun c o n h => b c o n (a c o n h)
theorem Fr.of {w : Addr} {H H1 : Hp} (a : Same H H1) : Fr w H H1 := fun b o _ h => a b o h
theorem Fr.sqL {K : PySem.W.Frag} {w : Addr} {H H' : Hp} {a : Addr} {xs : List V} (e : Fr w H H') (n : a ≠ w) (h : SqL K H a xs) : SqL K H' a xs := by
  rcases h with h | h
  · refine Or.inl ?_
    rcases h with h | ⟨o, h⟩
    · exact Or.inl (e a _ n h)
    · exact Or.inr ⟨o, e a _ n h⟩
  · exact Or.inr h
theorem Fr.sqT {K : PySem.W.Frag} {w : Addr} {H H' : Hp} {a : Addr} {xs : List V} (e : Fr w H H') (n : a ≠ w) (h : SqT K H a xs) : SqT K H' a xs := by
  rcases h with h | h
  · refine Or.inl ?_
    rcases h with h | ⟨o, h⟩
    · exact Or.inl (e a _ n h)
    · exact Or.inr ⟨o, e a _ n h⟩
  · exact Or.inr h
theorem sameT {K : PySem.W.Frag} {H H' : Hp} {a : Addr} {xs : List V} (e : Same H H') (h : SqT K H a xs) : SqT K H' a xs := by
  rcases h with h | h
  · refine Or.inl ?_
    rcases h with h | ⟨o, h⟩
    · exact Or.inl (e a _ h)
    · exact Or.inr ⟨o, e a _ h⟩
  · exact Or.inr h
theorem same_new {H : Hp} {p : Addr} {o : HO} (h : H p = none) : Same H (upd H p o) := fun b u e => by
  rw [upd_ne (ne_of_none e h)]
  exact e
theorem same_mut {H H' : Hp} {p : Addr} {o : HO} (e : Same H H') (h : H p = none) : Same H (upd H' p o) := fun b u ha => by
  rw [upd_ne (ne_of_none ha h)]
  exact e b u ha
theorem fr_mut {w : Addr} {H H' : Hp} {o : HO} (e : Fr w H H') : Fr w H (upd H' w o) := fun b u n h => by
  rw [upd_ne n]
  exact e b u n h
theorem fr_new {w : Addr} {H H' : Hp} {p : Addr} {o : HO} (e : Fr w H H') (h : H p = none) : Fr w H (upd H' p o) := fun b u n ha => by
  rw [upd_ne (ne_of_none ha h)]
  exact e b u n ha
theorem fr_free {w : Addr} {H H' : Hp} {p : Addr} (e : Fr w H H') (n : p ≠ w) (h : H' p = none) : H p = none := by
  cases z : H p with
  | none => rfl
  | some o =>
    rw [e p o n z] at h
    cases h
/-- ints as values -/
abbrev vi (l : List Int) : List V := l.map V.int
theorem vi_get {l : List Int} {i : Nat} {y : V} (h : (vi l)[i]? = some y) : ∃ z, l[i]? = some z ∧ y = .int z := by
  rw [List.getElem?_map] at h
  cases e : l[i]? with
  | none =>
    rw [e] at h
    cases h
  | some z =>
    rw [e] at h
    exact ⟨z, rfl, (Option.some.inj h).symm⟩
theorem vi_at {l : List Int} {i : Nat} (h : i < l.length) : atI (vi l) (i : Int) = some (.int (l.getD i 0)) := by
  refine atI_nat ?_
  rw [List.getElem?_map, List.getElem?_eq_getElem h, List.getD_eq_getElem?_getD, List.getElem?_eq_getElem h]
  rfl
end KpR

namespace KpR
open PySem PySem.Spec PyProof.Rows L2
def strB (es : Array DictEntry) : Bool := es.toList.all fun e => match e.key with
  | .str _ _ => true
  | _ => false
theorem strB_keys {es : Array DictEntry} (h : strB es = true) : StrKeys es := fun e he => by
  have q := List.all_eq_true.mp h e (by simpa using he)
  cases k : e.key <;> rw [k] at q <;> first | exact ⟨_, _, rfl⟩ | cases q
theorem ns_at {K : PySem.W.Frag} {h : Heap} {N : Addr} {c : Value} {d : Option Addr} {es : Array DictEntry} {m : Nat} {sl : Array (Option Value)} (X : K.In h) (l : K.lookup N = some ⟨c, d, .dict es m, sl⟩) (ok : strB es = true) :
    h.Ns N fun x => nsFind es x := ⟨_, es, m, X _ _ l, rfl, strB_keys ok, fun _ => rfl⟩
theorem find_some {K : PySem.W.Frag} {N : Addr} {c : Value} {d : Option Addr} {es : Array DictEntry} {m : Nat} {sl : Array (Option Value)} {x : Str} {v : Value} (l : K.lookup N = some ⟨c, d, .dict es m, sl⟩)
    (e : PySem.W.nsIn K N x = some (some v)) : nsFind es x = some v := by
  unfold PySem.W.nsIn at e
  rw [l] at e
  dsimp only at e
  unfold nsFind findBy
  rw [← Array.find?_toList]
  cases q : es.toList.find? (fun en => en.key.isStr x) with
  | none =>
    rw [q] at e
    dsimp only at e
    split at e <;> cases e
  | some en =>
    rw [q] at e
    cases e
    rfl
theorem find_none {K : PySem.W.Frag} {N : Addr} {c : Value} {d : Option Addr} {es : Array DictEntry} {m : Nat} {sl : Array (Option Value)} {x : Str} (l : K.lookup N = some ⟨c, d, .dict es m, sl⟩)
    (e : PySem.W.nsIn K N x = some none) : nsFind es x = none := by
  unfold PySem.W.nsIn at e
  rw [l] at e
  dsimp only at e
  unfold nsFind findBy
  rw [← Array.find?_toList]
  cases q : es.toList.find? (fun en => en.key.isStr x) with
  | none => rfl
  | some en =>
    rw [q] at e
    cases e
/-- what the written part says of such a class -/
structure NeCls (K : PySem.W.Frag) (C f : Addr) : Prop where
  ob : ∃ (nm q : Str) (N : Addr) (bs : List Value) (hd : Bool) (sn : List Str) (sub : List Value) (ab : Bool) (col : Option Bool) (dd : Option Addr) (k0 k1 k2 k3 k5 : Option Value) (nid : String),
    K.lookup C = some (excClassObj nm q C N bs [.type "object"] hd sn sub ab col dd k0 k1 k2 k3 k5 nid) ∧
    ∃ (c : Value) (d : Option Addr) (es : Array DictEntry) (m : Nat) (sl : Array (Option Value)), K.lookup N = some ⟨c, d, .dict es m, sl⟩ ∧ strB es = true ∧ PySem.W.nsIn K N "__eq__" = some (some (.ref f)) ∧ PySem.W.nsIn K N "__ne__" = some none
  fn : ∃ of : Obj, K.lookup f = some of ∧ of.cls = .type "function"
def rNeG (D : Eqv) : R2 := fun x y H Q => D x y H ∧ ∀ H', Ext H H' → Q (.bl false) H'
section
variable {X : Cx} {CX : CXT} {n : Nat} {C f : Addr} {fd : FuncData} {ps : List Str} {R : Addr → Addr → Hp → Prop} {E : XK}
theorem op_neOwn (G : FnOk X.prog X.w X.K X.mg X.base CX n f fd ps (spEq R)) (hc : NeCls X.K C f) (hb : Binds X.K fd ps []) (hx : Passes CX X E) (hr : Room (n + 1) X.A) :
    OpR X (compareOp .NotEq) (rNeG (DIns C R)) := by
  intro pins s σ H x y v u Q I rx ry hq
  obtain ⟨⟨a, b, dx, dy, fs, gs, rfl, rfl, ha, hb1, hR⟩, q⟩ := hq
  cases rx
  cases ry
  obtain ⟨mA, J, _⟩ := ins_get I.hok ha
  obtain ⟨mB, J1, _⟩ := ins_get I.hok hb1
  obtain ⟨od, J, _⟩ := J.look
  obtain ⟨od1, J1, _⟩ := J1.look
  obtain ⟨nm, qn, N, bs, hd, sn, sub, ab, col, dd, k0, k1, k2, k3, k5, nid, lC, c1, d1, es, m, sl, lN, sb, lE, lNe⟩ := hc.ob
  obtain ⟨of, lf, cf⟩ := hc.fn
  have KI := I.kIn
  obtain ⟨mN, hn, e1, e2⟩ : ∃ mN : Str → Option Value, s.heap.Ns N mN ∧ mN "__eq__" = some (.ref f) ∧ mN "__ne__" = none := ⟨_, ns_at KI lN sb, find_some lN lE, find_none lN lNe⟩
  have XX : s.heap.OwnEqNoNe a C f "object" [.type "object"] :=
    ⟨_, of, nm, qn, N, bs, hd, sn, sub, ab, col, dd, k0, k1, k2, k3, k5, nid, mN, _, J.at_, J.cls, KI _ _ lC, hn, e1, KI _ _ lf, cf, rfl, rfl, e2⟩
  have e0 := I.env0
  have sp1 : spEq R [.ref a, .ref b] H (fun v H' => v = .bl true ∧ Ext H H') E := ⟨a, b, rfl, hR, fun H' e => ⟨rfl, e⟩⟩
  have ln := G.len _ _ _ _ sp1
  have vals : Vals [V.ref a, V.ref b] [Value.ref a, Value.ref b] := .cons rfl (.cons rfl .nil)
  have hr1 : Room n X.A.in1 := hr.in1
  have f0 : Env0 X.prog X.w X.K X.mg X.base X.A.in1 X.stack s H := ⟨e0.frames, e0.mod, e0.bs, e0.bsz, e0.funs, e0.frf, e0.hok, e0.bare⟩
  have bd := hb s [.ref a, .ref b] KI (by simpa using ln)
  obtain ⟨hp, g, dr, tk, os⟩ := s
  refine compareOp_ne_ownEq F.cmp_object XX J1.at_ J1.cls (hu_of hr) ?_
  refine wpAny_call (codeAny_mono (G.run X.A.in1 X.stack _ H ⟨[.ref a, .ref b], []⟩ [.ref a, .ref b] [.ref a, .ref b] _ E hr1 f0 (by simpa using bd) vals sp1) fun r s1 hq1 => ?_)
  cases r with
  | error e => exact hx pins σ H _ e s1 I hq1
  | ok fl =>
    cases fl with
    | ret w1 =>
      obtain ⟨z, H1, I1, rz, ez, ex⟩ := I.after hq1
      subst ez
      cases rz
      exact ⟨true, rfl, .bl false, H1, I1, rfl, q H1 ex⟩
    | next => exact False.elim hq1
    | brk => exact False.elim hq1
    | cont => exact False.elim hq1
end
end KpR

namespace KpR
open PySem PySem.Spec PyProof.Rows L2
section
variable {prog : Program} {w : World} {A : Around} {E : Value → Shared → Prop} {s : Shared} {K : PySem.W.Frag} {x C f : Addr} {ox : Obj} {od : Option Obj}
theorem dec_tup {l : Addr} {its : Array Value} {n : Nat} {dd : Option Addr} {sl : Array (Option Value)} {Q : Value → Shared → Prop} (hl : s.heap.get? l = some { cls := .type "tuple", dict := dd, data := .seq its n, slots := sl })
    (hx : s.heap.get? x = some ox) (hc : ox.cls = .ref C) (hs : PySem.W.Looks (model prog w) s.heap (isSubtype (.ref C) (.type "tuple")) false) (q : Q .notImplemented s) :
    wpAny (model prog w) A (call (.builtin "tuple.__eq__") [.ref l, .ref x]) Q E s := by
  refine GQ.call_here F.slot_tuple_eq ⟨_, hl, rfl⟩ F.entry_tuple_eq (F.args_tuple_eq_2 _ _) ?_
  obtain ⟨hp, g, d, tk, os⟩ := s
  wp_walk using PySem.AutoSeq1.wpAny_loadPart' hx
  rw [hc]
  refine hs.at ?_
  wp_walk
  exact q
theorem dec_int {i : Int} {t : Tok} {Q : Value → Shared → Prop}
    (hx : s.heap.get? x = some ox) (hd : ∀ p, ox.data ≠ .prim p) (q : Q .notImplemented s) :
    wpAny (model prog w) A (call (.builtin "int.__eq__") [.int i t, .ref x]) Q E s := by
  refine GQ.call_here F.slot_int_eq (typeIs_int s i t) F.entry_int_eq (F.args_int_eq_2 _ _) ?_
  obtain ⟨hp, g, d, tk, os⟩ := s
  wp_walk using PySem.AutoSeq1.wpAny_loadPart' hx, wpAny_load hx
  split
  · rename_i i' t' e
    exact absurd e (hd _)
  · wp_walk
    exact q
theorem dec_non {Q : Value → Shared → Prop} (q : Q .notImplemented s) :
    wpAny (model prog w) A (call (.builtin "NoneType.__eq__") [.none, .ref x]) Q E s :=
  call_gives F.slot_NoneType_eq rfl F.entry_NoneType_eq (F.args_NoneType_eq_2 _ _) (SeqAt.NoneType___eq___none_ref_0 x) q
/-- a value that declines, then the own == of the other side -/
theorem rc_behind {v : Value} {T id : String} {Q : Value → Shared → Prop} (tv : s.TypeIs v T) (X : K.In s.heap) (I : PySem.W.InstAt s.heap x ox C od) (hsub : PySem.W.subIn K (.ref C) (.type T) = some false)
    (h1 : Slot T "__eq__" id) (dec : ∀ Q' : Value → Shared → Prop, Q' .notImplemented s → wpAny (model prog w) A (call (.builtin id) [v, .ref x]) Q' E s) (hs : PySem.W.findIn K (.ref C) "__eq__" = some (some (.ref f))) (hf : PySem.W.isFn K (.ref f) = true)
    (hu : A.units < cLine) (h : wpAny (model prog w) A (call (.ref f) [.ref x, v]) (PySem.W.CmpBack Q) E s) : wpAny (model prog w) A (richCompare .Eq v (.ref x)) Q E s := by
  have one : wpAny (model prog w) A (tryCompare (.ref x) "__eq__" v) (fun r s' => ∃ z, r = some z ∧ Q z s') E s := by
    unfold tryCompare
    refine wpAny_bind (PySem.W.ifBound_K X I hs hf (wpAny_mono h (fun z s' hz => ?_) fun _ _ e => e))
    cases z with
    | notImplemented => exact False.elim hz
    | _ => exact wpAny_pure ⟨_, rfl, hz⟩
  have nz : (Value.type T != Value.ref C) = true := rfl
  simp only [richCompare, cmpInfo_Eq, tv.oneThing_none]
  refine wpAny_holding (wpAny_bind (wpAny_cRoomFor hu ?_))
  refine wpAny_bind (wpAny_typeOf tv (wpAny_bind (I.type.here ?_)))
  rw [if_pos nz]
  refine wpAny_bind ((PySem.W.looks_subIn X hsub).here ?_)
  rw [if_neg Bool.false_ne_true]
  refine wpAny_bind (m := tryCompare v _ (.ref x)) (wpAny_tryCompare_declines tv h1 (dec _ ⟨rfl, ?_⟩))
  rw [if_pos (show (!false) = true from rfl)]
  refine wpAny_bind (m := tryCompare (.ref x) _ v) (wpAny_mono one (fun r s' z => ?_) fun _ _ e => e)
  obtain ⟨z, rfl, hq⟩ := z
  exact wpAny_pure hq
end
/-- an own == that answers b where R says so, and only makes objects -/
def spEqB (R : Addr → V → Bool → Hp → Prop) : Sp := fun vs H Q _ => ∃ a y b, vs = [.ref a, y] ∧ R a y b H ∧ ∀ H', Ext H H' → Q (.bl b) H'
/-- either answer, by the abstract heap -/
abbrev EqvB := V → V → Bool → Hp → Prop
def EqB (X : Cx) (n : Nat) (D : EqvB) : Prop :=
  ∀ (B : Around) (pins : List (Addr × Obj)) (s : Shared) (σ : L2.St) (H : Hp) (x y : V) (b : Bool) (u v : Value), Sub X n B → Inv X pins σ H s → RelV x u → RelV y v → D x y b H →
    wpAny (model X.prog X.w) B (eqBool u v) (fun r s' => r = b ∧ LoopI X pins σ H s') X.xe s
def RcB (X : Cx) (n : Nat) (D : EqvB) : Prop :=
  ∀ (B : Around) (pins : List (Addr × Obj)) (s : Shared) (σ : L2.St) (H : Hp) (x y : V) (b : Bool) (u v : Value), Sub X n B → Inv X pins σ H s → RelV x u → RelV y v → D x y b H →
    wpAny (model X.prog X.w) B (richCompare .Eq u v) (fun r s' => r = .bool b ∧ LoopI X pins σ H s') X.xe s
/-- what the written part says of a class with an own == -/
structure EqCls (K : PySem.W.Frag) (C f : Addr) : Prop where
  hs : PySem.W.findIn K (.ref C) "__eq__" = some (some (.ref f))
  hf : PySem.W.isFn K (.ref f) = true
/-- both are instances, the second of no class below the first one's -/
def DInsB (K : PySem.W.Frag) (C : Addr) (R : Addr → V → Bool → Hp → Prop) : EqvB := fun x y b H => ∃ a c C' dx dy fs gs, x = .ref a ∧ y = .ref c ∧ H a = some (.ins C dx fs) ∧ H c = some (.ins C' dy gs) ∧ PySem.W.notFirst K C (.ref C') = true ∧ R a (.ref c) b H
/-- the first one is none of the class -/
inductive Alien (K : PySem.W.Frag) (C : Addr) (H : Hp) : V → Prop
  | non (h : PySem.W.subIn K (.ref C) (.type "NoneType") = some false) : Alien K C H .non
  | int {i : Int} (h : PySem.W.subIn K (.ref C) (.type "int") = some false) : Alien K C H (.int i)
  | tup {a : Addr} {xs : List V} (h : PySem.W.subIn K (.ref C) (.type "tuple") = some false) (e : H a = some (.tup xs)) : Alien K C H (.ref a)
  | lst {a : Addr} {xs : List V} (h : PySem.W.subIn K (.ref C) (.type "list") = some false) (e : H a = some (.lst xs)) : Alien K C H (.ref a)
def DBehB (K : PySem.W.Frag) (C : Addr) (R : Addr → V → Bool → Hp → Prop) : EqvB := fun x y b H => ∃ a dx fs, y = .ref a ∧ H a = some (.ins C dx fs) ∧ Alien K C H x ∧ R a x b H
section
variable {prog : Program} {w : World} {A : Around} {E : Value → Shared → Prop} {s : Shared} {x C : Addr} {ox : Obj}
theorem dec_lst {l : Addr} {its : Array Value} {n : Nat} {dd : Option Addr} {sl : Array (Option Value)} {Q : Value → Shared → Prop} (hl : s.heap.get? l = some { cls := .type "list", dict := dd, data := .seq its n, slots := sl })
    (hx : s.heap.get? x = some ox) (hc : ox.cls = .ref C) (hs : PySem.W.Looks (model prog w) s.heap (isSubtype (.ref C) (.type "list")) false) (q : Q .notImplemented s) :
    wpAny (model prog w) A (call (.builtin "list.__eq__") [.ref l, .ref x]) Q E s := by
  refine GQ.call_here F.slot_list_eq ⟨_, hl, rfl⟩ F.entry_list_eq (F.args_list_eq_2 _ _) ?_
  obtain ⟨hp, g, d, tk, os⟩ := s
  wp_walk using PySem.AutoSeq1.wpAny_loadPart' hx
  rw [hc]
  refine hs.at ?_
  wp_walk
  exact q
end
section
variable {X : Cx} {CX : CXT} {n : Nat} {C f : Addr} {fd : FuncData} {ps : List Str} {R : Addr → V → Bool → Hp → Prop} {E : XK} {pins : List (Addr × Obj)} {σ : L2.St} {H : Hp} {s : Shared} {B : Around}
theorem own_runB (G : FnOk X.prog X.w X.K X.mg X.base CX n f fd ps (spEqB R)) (hb : Binds X.K fd ps []) (hx : Passes CX X E) (sb : Sub X n B) (I : Inv X pins σ H s) {a : Addr} {y : V} {v : Value} {b : Bool} (ry : RelV y v) (hr : R a y b H) :
    wpAny (model X.prog X.w) B (call (.ref f) [.ref a, v]) (PySem.W.CmpBack fun r s' => r = .bool b ∧ LoopI X pins σ H s') X.xe s := by
  have sp1 : spEqB R [.ref a, y] H (fun z H' => z = .bl b ∧ Ext H H') E := ⟨a, y, b, rfl, hr, fun H' e => ⟨rfl, e⟩⟩
  have e0 := I.env0
  have ln := G.len _ _ _ _ sp1
  have vals : Vals [V.ref a, y] [Value.ref a, v] := .cons rfl (.cons ry .nil)
  have f0 : Env0 X.prog X.w X.K X.mg X.base B X.stack s H := ⟨by rw [sb.fr]; exact e0.frames, e0.mod, e0.bs, e0.bsz, e0.funs, e0.frf, e0.hok, e0.bare⟩
  have bd := hb s [.ref a, v] I.kIn (by simpa using ln)
  refine wpAny_call (codeAny_mono (G.run B X.stack s H ⟨[.ref a, v], []⟩ [.ref a, v] [.ref a, y] _ E sb.room f0 (by simpa using bd) vals sp1) fun r s1 hq1 => ?_)
  cases r with
  | error e => exact hx pins σ H s e s1 I hq1
  | ok fl =>
    cases fl with
    | ret w1 =>
      obtain ⟨z, H1, I1, rz, ez, ex⟩ := I.after hq1
      subst ez
      cases rz
      exact ⟨rfl, H1, I1, ex⟩
    | next => exact False.elim hq1
    | brk => exact False.elim hq1
    | cont => exact False.elim hq1
theorem rcB_ins (hc : EqCls X.K C f) (G : FnOk X.prog X.w X.K X.mg X.base CX n f fd ps (spEqB R)) (hb : Binds X.K fd ps []) (hx : Passes CX X E) : RcB X n (DInsB X.K C R) := by
  intro B pins s σ H x y b u v sb I rx ry hd
  obtain ⟨a, c, C', dx, dy, fs, gs, rfl, rfl, ha, hc1, nf, hr⟩ := hd
  cases rx
  cases ry
  obtain ⟨mA, J, _⟩ := ins_get I.hok ha
  obtain ⟨mC, J1, _⟩ := ins_get I.hok hc1
  obtain ⟨od, J, _⟩ := J.look
  obtain ⟨od1, J1, _⟩ := J1.look
  obtain ⟨m, hF⟩ := I.fr
  exact PySem.W.cmp_K (op := .Eq) (tb := .ref C') sb.room.units0 hF I.ok.mod.kin J J1.type nf hc.hs hc.hf (own_runB (y := .ref c) (v := .ref c) G hb hx sb I rfl hr)
theorem rcB_beh (hc : EqCls X.K C f) (G : FnOk X.prog X.w X.K X.mg X.base CX n f fd ps (spEqB R)) (hb : Binds X.K fd ps []) (hx : Passes CX X E) : RcB X n (DBehB X.K C R) := by
  intro B pins s σ H x y b u v sb I rx ry hd
  obtain ⟨a, dx, fs, rfl, ha, al, hr⟩ := hd
  cases ry
  obtain ⟨mA, J, _⟩ := ins_get I.hok ha
  obtain ⟨od, J, _⟩ := J.look
  have go := fun {v : Value} (rv : RelV x v) => own_runB G hb hx sb I rv hr
  cases al with
  | non h =>
    cases (show u = Value.none from rx)
    exact rc_behind rfl I.kIn J h F.slot_NoneType_eq (fun _ q => dec_non q) hc.hs hc.hf sb.room.units0 (go rfl)
  | int h =>
    obtain ⟨t, e⟩ := (show ∃ t, u = Value.int _ t from rx)
    cases e
    exact rc_behind (typeIs_int s _ t) I.kIn J h F.slot_int_eq (fun _ q => dec_int J.at_ (fun _ z => nomatch z) q) hc.hs hc.hf sb.room.units0 (go ⟨t, rfl⟩)
  | tup h e =>
    cases (show u = Value.ref _ from rx)
    obtain ⟨its, r, ⟨⟨cl, dd, dt, sl⟩, e1, e2, k, e3⟩, _⟩ := I.tuple (SqT.of e)
    simp only at e2 e3
    subst e2 e3
    exact rc_behind ⟨_, e1, rfl⟩ I.kIn J h F.slot_tuple_eq (fun _ q => dec_tup e1 J.at_ rfl (PySem.W.looks_subIn I.kIn h) q) hc.hs hc.hf sb.room.units0 (go rfl)
  | lst h e =>
    cases (show u = Value.ref _ from rx)
    obtain ⟨z, its, k, r, e1⟩ := I.hok _ _ e
    exact rc_behind ⟨_, e1, rfl⟩ I.kIn J h F.slot_list_eq (fun _ q => dec_lst e1 J.at_ rfl (PySem.W.looks_subIn I.kIn h) q) hc.hs hc.hf sb.room.units0 (go rfl)
end
section
variable {X : Cx} {n m : Nat} {D D' : EqvB}
theorem RcB.or (h : RcB X n D) (h' : RcB X n D') : RcB X n (fun x y b H => D x y b H ∨ D' x y b H) := fun B pins s σ H x y b u v sb I rx ry d =>
  d.elim (h B pins s σ H x y b u v sb I rx ry) (h' B pins s σ H x y b u v sb I rx ry)
theorem EqB.or (h : EqB X n D) (h' : EqB X n D') : EqB X n (fun x y b H => D x y b H ∨ D' x y b H) := fun B pins s σ H x y b u v sb I rx ry d =>
  d.elim (h B pins s σ H x y b u v sb I rx ry) (h' B pins s σ H x y b u v sb I rx ry)
theorem RcB.mono (h : RcB X n D) (k : n ≤ m) : RcB X m D := fun B pins s σ H x y b u v sb => h B pins s σ H x y b u v (sb.mono k)
/-- inside a list or a tuple: the same object is itself -/
theorem RcB.eqB (h : RcB X n D) (hr : ∀ x y b H, D x y b H → (∃ c, x = .ref c ∧ ∃ a, y = .ref a ∧ (c = a → b = true)) ∨ ((x = .non ∨ ∃ i, x = .int i) ∧ ∃ a, y = .ref a)) : EqB X n D := by
  intro B pins s σ H x y b u v sb I rx ry d
  have go : u ≠ v → (∀ p q, ¬ (u = .float p q)) → wpAny (model X.prog X.w) B (eqBool u v) (fun r s' => r = b ∧ LoopI X pins σ H s') X.xe s := by
    intro ne nf
    unfold eqBool
    refine wpAny_holding ?_
    refine wpAny_ite_split (fun e => absurd (eq_of_beq e) ne) (fun _ => ?_)
    have k := h B pins s σ H x y b u v sb I rx ry d
    have k2 : wpAny (model X.prog X.w) B (do truthOfDropped (← richCompare .Eq u v)) (fun r s' => r = b ∧ LoopI X pins σ H s') X.xe s := by
      refine wpAny_bind (wpAny_mono k (fun z s' q => ?_) fun _ _ e => e)
      obtain ⟨rfl, q⟩ := q
      exact wpAny_truthy_bool ⟨rfl, q⟩
    cases u with
    | float p q => exact absurd rfl (nf p q)
    | _ => exact k2
  rcases hr x y b H d with ⟨c, rfl, a, rfl, q⟩ | ⟨hx, a, rfl⟩
  · cases (show u = Value.ref c from rx)
    cases (show v = Value.ref a from ry)
    by_cases e : c = a
    · have eb := q e
      subst e
      subst eb
      exact SeqAt.EqAt.same (A := B) (s := s) (.ref c) X.prog X.w X.xe _ ⟨rfl, H, I, Ext.rfl'⟩
    · exact go (fun z => e (Value.ref.inj z)) (fun _ _ z => nomatch z)
  · cases (show v = Value.ref a from ry)
    rcases hx with rfl | ⟨i, rfl⟩
    · cases (show u = Value.none from rx)
      exact go (fun z => nomatch z) (fun _ _ z => nomatch z)
    · obtain ⟨t, e⟩ := (show ∃ t, u = Value.int i t from rx)
      cases e
      exact go (fun z => nomatch z) (fun _ _ z => nomatch z)
/-- x == y -/
def rEqB (D : EqvB) : R2 := fun x y H Q => ∃ b, D x y b H ∧ ∀ H', Ext H H' → Q (.bl b) H'
theorem op_eqB (h : RcB X n D) (hr : Room n X.A) : OpR X (compareOp .Eq) (rEqB D) := by
  intro pins s σ H x y v u Q I rx ry hq
  obtain ⟨b, d, q⟩ := hq
  show wpAny (model X.prog X.w) X.A (richCompare .Eq v u) (EP X pins σ Q) X.xe s
  refine wpAny_mono (h X.A pins s σ H x y b v u ⟨hr, rfl⟩ I rx ry d) (fun r s1 z => ?_) fun _ _ e => e
  obtain ⟨rfl, H1, I1, e⟩ := z
  exact ⟨.bl b, H1, I1, rfl, q H1 e⟩
/-- x in a list none of whose items is equal to it -/
def rOutB (D : EqvB) : R2 := fun x y H Q => ∃ l ys, y = .ref l ∧ (∀ H', Ext H H' → H' l = some (.lst ys)) ∧ (∀ z, z ∈ ys → ∀ H', Ext H H' → D z x false H') ∧ ∀ H', Ext H H' → Q (.bl false) H'
theorem has_none (h : EqB X n D) {B : Around} (sb : Sub X (n + 1) B) {pins : List (Addr × Obj)} {σ : L2.St} {H : Hp} {x : V} {v : Value} {l : Addr} {ys : List V} (rx : RelV x v) (hl : ∀ H', Ext H H' → H' l = some (.lst ys)) (hd : ∀ z, z ∈ ys → ∀ H', Ext H H' → D z x false H')
    {Q : Value → Shared → Prop} (fin : ∀ s', LoopI X pins σ H s' → Q (.bool false) s') (k : Nat) : ∀ i : Nat, ys.length - i = k → ∀ s, LoopI X pins σ H s →
      wpAny (model X.prog X.w) B.in1 (Builtin.«list.__contains__.loop» ⟨[.ref l, v, rawInt i], []⟩) (GQ.FinOf X.prog X.w B (wants Q X.xe)) (fun e s' => wants Q X.xe (.error e) s') s := by
  induction k with
  | zero =>
    intro i hi s hs
    obtain ⟨H1, I1, e1⟩ := id hs
    obtain ⟨z, its, kk, r, eo⟩ := I1.hok _ _ (hl H1 e1)
    have out := fin s hs
    have no : its.toArray[((i : Nat) : Int).toNat]? = none := by
      have q := r.length
      simp
      omega
    obtain ⟨hp, g, d, tk, os⟩ := s
    wp_walk using PySem.AutoSeq1.wpAny_loadPart' eo
    rw [no]
    wp_walk
    exact out
  | succ k ih =>
    intro i hi s hs
    obtain ⟨H1, I1, e1⟩ := id hs
    obtain ⟨z, its, kk, r, eo⟩ := I1.hok _ _ (hl H1 e1)
    have lt : i < ys.length := by omega
    have lt2 : i < its.length := by rw [← r.length] <;> exact lt
    have so : its.toArray[((i : Nat) : Int).toNat]? = some its[i] := by simp [lt2]
    obtain ⟨u, hu, ru⟩ := r.get (List.getElem?_eq_getElem lt)
    have eu : its[i] = u := by
      rw [List.getElem?_eq_getElem lt2] at hu
      exact Option.some.inj hu
    have turn := h B.in1 pins s σ H1 _ x false u v sb.in1 I1 ru rx (hd _ (List.getElem_mem lt) H1 e1)
    obtain ⟨hp, g, d, tk, os⟩ := s
    wp_walk using PySem.AutoSeq1.wpAny_loadPart' eo
    rw [so, eu]
    refine wpAny_bind (wpAny_mono turn (fun rr s2 q => ?_) fun _ _ e => e)
    obtain ⟨rfl, H2, I2, e2⟩ := q
    have next := ih (i + 1) (by omega) s2 ⟨H2, I2, e1.trans e2⟩
    have up : ((i : Int) + 1) = ((i + 1 : Nat) : Int) := by omega
    obtain ⟨hp2, g2, d2, tk2, os2⟩ := s2
    wp_walk
    rw [up]
    exact ⟨plainId_quiet MeetsSeq.plain_contains_loop _, codeAny_builtin MeetsSeq.entry_contains_loop (by
      rw [Around.under_plainId MeetsSeq.plain_contains_loop _]
      exact next)⟩
theorem op_outB (h : EqB X n D) (hr : Room (n + 1) X.A) : OpR X (compareOp .In) (rOutB D) := by
  intro pins s σ H x y v u Q I rx ry hq
  obtain ⟨l, ys, rfl, hl, hd, q⟩ := hq
  cases (show u = Value.ref l from ry)
  obtain ⟨z, its, kk, r, eo⟩ := I.hok _ _ (hl H Ext.rfl')
  show wpAny (model X.prog X.w) X.A (do return .bool (← contains (.ref l) v)) (EP X pins σ Q) X.xe s
  have end_ : ∀ s', LoopI X pins σ H s' → EP X pins σ Q (.bool false) s' := fun s' ⟨H1, I1, e1⟩ => ⟨.bl false, H1, I1, rfl, q H1 e1⟩
  have run := has_none (B := X.A) h ⟨hr, rfl⟩ rx hl hd (Q := fun r s' => r = .bool false ∧ LoopI X pins σ H s') (fun s' z => ⟨rfl, z⟩) _ 0 rfl s ⟨H, I, Ext.rfl'⟩
  refine wpAny_bind (wpAny_contains_slot (id := "list.__contains__") ⟨_, eo, rfl⟩ F.slot_list_contains (wpAny_mono (GQ.call_here (Q := fun r s' => r = .bool false ∧ LoopI X pins σ H s') F.slot_list_contains ⟨_, eo, rfl⟩ F.entry_list_contains (F.args_list_contains_2 _ _) ?_) (fun r s' z => ?_) fun _ _ e => e))
  · obtain ⟨hp, g, d, tk, os⟩ := s
    wp_walk
    exact ⟨plainId_quiet MeetsSeq.plain_contains_loop _, codeAny_builtin MeetsSeq.entry_contains_loop (by
      rw [Around.under_plainId MeetsSeq.plain_contains_loop _]
      exact run)⟩
  · obtain ⟨rfl, z⟩ := z
    exact wpAny_truthy_bool (wpAny_pure (end_ s' z))
end
end KpR

namespace KpR
open PySem PySem.Spec PyProof.Rows L2
/-- a callee of which nothing comes -/
theorem passF {X : Cx} : Passes (L2.CX X.prog X.w) X (fun _ _ _ => False) := fun _ _ _ _ _ _ _ ⟨_, _, _, _, _, _, _, _, _, _, _, _, z⟩ => z.elim
/-- what a callee in a try's body may raise: whatever the locals are -/
def anyL (n : Nat) (W : WX) : XK := fun cls d H => ∀ σ : L2.St, σ.length = n → W cls d σ H
theorem passL {X : Cx} {W : WX} {n : Nat} (tk : Takes X W) (hn : X.N.length = n) : Passes (L2.CX X.prog X.w) X (anyL n W) := fun _ σ _ _ e s' I c => tk e s' (XE.of_call I (fun _ _ _ h => h σ (by rw [← hn] <;> exact I.len)) c)
/-- a call by keywords of a def without defaults -/
theorem kbOf {K : PySem.W.Frag} {fd : FuncData} {ps ks : List Str} {n : Nat} {g : List Value → List Value → List Value} {gV : List V → List V → List V}
    (h : ∀ us ws : List Value, us.length = n → ws.length = ks.length → bindArgs fd ⟨us, ks.zip ws⟩ = pure (ps.zip (g us ws))) (r : ∀ {vs : List V} {us : List Value} {zs : List V} {ws : List Value}, Vals vs us → Vals zs ws → Vals (gV vs zs) (g us ws)) : KBn K fd ps n ks g gV :=
  ⟨fun s us ws _ l1 l2 => .of_eq (h us ws l1 l2), r⟩
/-- a builtin's type against an own class -/
theorem kit_tc {K : PySem.W.Frag} {T : String} {C : Addr} {b : Bool} (h1 : PySem.W.isClsIn K C = true) (h2 : PySem.W.typeIn K (.ref C) = some (.type "type")) (h3 : PySem.W.subIn K (.type T) (.ref C) = some b) : PySem.W.kitOne K (.type T) (.ref C) = some b := by
  have ne : ¬ (Value.type T == Value.ref C) = true := fun z => nomatch eq_of_beq z
  unfold PySem.W.kitOne
  rw [if_neg ne]
  show (if ((PySem.W.clsIn K C).isSome && PySem.W.typeIn K (.ref C) == some (.type "type")) = true then PySem.W.subIn K (.type T) (.ref C) else none) = some b
  rw [show (PySem.W.clsIn K C).isSome = true from h1, h2, if_pos (by rfl)]
  exact h3
/-- the first clause takes it -/
def wFst (K : PySem.W.Frag) (c : Value) (i : Nat) (tz : Addr → Value → Option Addr → TS) (D : Ends) : WX := fun cls d σ H =>
  PySem.W.exmOne K cls c = some true ∧ ∀ a, H a = none → tz a cls d ⟨fun τ G => D.nx (τ.set i none) G, D.rt, fun τ G => D.bk (τ.set i none) G, fun τ G => D.ct (τ.set i none) G⟩ (σ.set i (some (.ref a))) H
section
variable {X : Cx} {x n : Str} {c : Value} {i : Nat} {body rest : List Stmt} {z₀ : Stmt} {more : List ExceptHandler} {pn pt pw : Pos} {tb : WX → TS} {tz : Addr → Value → Option Addr → TS}
theorem ps_try_fst (st : X.stack = X.env :: X.outer) (fr : X.env.frame = some X.env.locals) (nd : X.N.Nodup) (at_ : X.N[i]? = some n) (lo : X.env.kindOf n = some .local) (nm : Names X x c)
    (bd : ∀ (W : WX) (qn : List (Addr × Obj)) (xe : Value → Shared → Prop), Takes (X.tr qn xe) W → PassesOwn (model X.prog X.w) X.A X.env xe → PSs (X.tr qn xe) body (tb W))
    (su : ∀ (e : Addr) (oe : Obj) (cls : Value) (d : Option Addr) (qn : List (Addr × Obj)), Zc cls d oe → (∃ fs, oe.data = .fields fs) → PSs (X.suite e ((e, oe) :: qn)) (z₀ :: rest) (tz e cls d)) :
    PS X (.Try body (.ExceptHandler (some (.Name x pn)) (some n) (z₀ :: rest) pw :: more) [] [] pt) (fun D σ H => tb (wFst X.K c i tz D) D σ H) := by
  refine ⟨fun pins s σ H D I hyp => ?_⟩
  have okX := I.ok
  have afr : X.A.frames = some (X.env :: X.outer) := by rw [okX.frames, st]
  have lcl : Loc X.env.scope n := .inl lo
  let hs := ExceptHandler.ExceptHandler (some (.Name x pn)) (some n) (z₀ :: rest) pw :: more
  refine wpAny_Try_except ?_
  refine wpAny_mono ((bd (wFst X.K c i tz D) (X.pn ++ pins) (fun e t1 => wpAny (model X.prog X.w) X.A (noteFrame e X.env) (fun _ t2 => wpAny (model X.prog X.w) X.A (setFlight e none) (fun _ t3 =>
    wpAny (model X.prog X.w) X.A (handleBy e X.env hs) (SP X pins D) X.xe t3) X.xe t2) X.xe t1) (fun u t air => ?_) PassesOwn.looking).run [] s σ H D (I.toTry _) hyp) (fun f t done => ?_) (fun _ _ air => air)
  · obtain ⟨e, G, sI, pq, τ, H1, cls, d, rfl, J0, near, upS, sky0, free, osE, bare, hit, go⟩ := air
    have J : Inv X pins τ H1 sI := J0.ofTry okX
    have sky : Sky G (X.env :: X.outer) e (Zc cls d) X.env.locals t.heap := by rw [← st] <;> exact sky0
    show wpAny (model X.prog X.w) X.A (noteFrame (.ref e) X.env) _ _ _
    refine Sky.land Zc.steady afr fr sky fun hp1 fly1 up1 => ?_
    have J1 : Inv X pins τ H1 { t with heap := hp1 } := J.landed near fly1.1 (upS.trans up1) osE bare
    obtain ⟨o1, fs1, at1, z1, dat1⟩ := fly1.there
    have off : e ∉ frs (X.env :: X.outer) := fun mem => by
      obtain ⟨_, o2, at2, no2⟩ := fly1.2.2.1.mem mem
      have q : o1 = o2 := Option.some.inj (at1.symm.trans at2)
      subst q
      exact no2 _ dat1
    have offL : e ≠ X.env.locals := fun q => off (List.mem_filterMap.mpr ⟨X.env, List.mem_cons_self, by rw [fr, q]⟩)
    have offF : e ∉ X.fs := fun mem => by
      obtain ⟨y, hy, q⟩ := List.mem_filterMap.mp mem
      exact off (List.mem_filterMap.mpr ⟨y, List.mem_cons_of_mem _ hy, q⟩)
    have S1 := J1.suite at1 dat1 free offL offF
    refine wpAny_handleBy_cons (codeAny_handlers_test ?_) (fun q => nomatch q)
    have ty : PySem.W.Looks (model X.prog X.w) hp1 (typeOf (.ref e)) cls := fun A Q E s k q => wpAny_typeOf_ref (k _ _ at1) (by rw [z1.1] <;> exact q)
    have mt := PySem.W.exm_one (M := model X.prog X.w) (J1.kIn) ty hit
    have look : ∀ {Q : Value → Shared → Prop} {E : Value → Shared → Prop}, Q c { t with heap := hp1 } → wpAny (model X.prog X.w) (X.A.mark (some (.ref e))) (eval (.Name x pn) X.env) Q E { t with heap := hp1 } := fun {Q E} q => by
      obtain ⟨gl, nd2, own | ⟨none_, boot, nn⟩⟩ := nm
      · exact ld_glob (X := X.suite e ((e, o1) :: (X.pn ++ pins))) S1 gl own q nd2
      · exact ld_blt (X := X.suite e ((e, o1) :: (X.pn ++ pins))) S1 gl none_ boot q nn nd2
    refine look (mt.here ?_)
    refine codeAny_handlers_suite_as ?_
    refine HandSPX.lands_againZ fly1 fun hp2 fly2 up2 => ?_
    have J2 : Inv X pins τ H1 { t with heap := hp2 } := J.landed near fly2.1 ((upS.trans up1).trans up2) osE bare
    obtain ⟨o2, fs2, at2, z2, dat2⟩ := fly2.there
    have S2 := J2.suite at2 dat2 free offL offF
    refine store_ok (X := X.suite e ((e, o2) :: (X.pn ++ pins))) (v := .ref e) S2 nd at_ lcl rfl (fun t2 S3 => ?_) (.inr lo)
    refine wpAny_mono ((su e o2 cls d (X.pn ++ pins) z2 ⟨_, dat2⟩).run [] t2 _ H1 _ S3 (go e free)) (fun f t3 out => ?_) (fun _ _ q => False.elim q)
    have fin : ∀ {τ1 : L2.St} {H2 : Hp} {R : Shared → Prop}, Inv (X.suite e ((e, o2) :: (X.pn ++ pins))) [] τ1 H2 t3 → (∀ t4, Inv X pins (τ1.set i none) H2 t4 → R t4) →
        wpAny (model X.prog X.w) X.A (do bindName X.env n .none; unbindBehindTheSuite X.env n pw) (fun _ t4 => R t4) X.xe t3 := fun {τ1 H2 R} S4 q => gone_ok (S4.unsuite okX) nd at_ lo q
    match f, out with
    | .next, ⟨_, _, S4, q⟩ => exact fin S4 fun _ J4 => ⟨_, _, J4, q⟩
    | .brk, ⟨_, _, S4, q⟩ => exact fin S4 fun _ J4 => ⟨_, _, J4, q⟩
    | .cont, ⟨_, _, S4, q⟩ => exact fin S4 fun _ J4 => ⟨_, _, J4, q⟩
    | .ret u, ⟨_, _, _, S4, ru, q⟩ => exact fin S4 fun _ J4 => ⟨_, _, _, J4, ru, q⟩
  · match f, done with
    | .next, ⟨_, _, J4, q⟩ => exact wpAny_execs_nil ⟨_, _, J4.ofTry okX, q⟩
    | .brk, ⟨_, _, J4, q⟩ => exact ⟨_, _, J4.ofTry okX, q⟩
    | .cont, ⟨_, _, J4, q⟩ => exact ⟨_, _, J4.ofTry okX, q⟩
    | .ret u, ⟨_, _, _, J4, ru, q⟩ => exact ⟨_, _, _, J4.ofTry okX, ru, q⟩
end
/-- what the written part says of a class with an own == and the != of object, anywhere below object -/
structure NeK (K : PySem.W.Frag) (C f : Addr) : Prop where
  hn : PySem.W.findIn K (.ref C) "__ne__" = some (some (.builtin "object.__ne__"))
  hm : PySem.W.mroIn K C (.type "object") = some true
  hs : PySem.W.findIn K (.ref C) "__eq__" = some (some (.ref f))
  hf : PySem.W.isFn K (.ref f) = true
section
variable {prog : Program} {w : World} {A : Around} {E : Value → Shared → Prop} {s : Shared} {K : PySem.W.Frag} {x y C f : Addr} {ox oy : Obj} {od : Option Obj}
theorem objNe_own {Q : Fin → Shared → Prop} (X : K.In s.heap) (I : PySem.W.InstAt s.heap x ox C od) (c : NeK K C f) (hu : A.units < cLine)
    (h : wpAny (model prog w) A (call (.ref f) [.ref x, .ref y]) (fun v s1 => ∃ b, v = .bool b ∧ Q (.done (.ret (.bool (!b)))) s1) E s) : wpAny (model prog w) A (Builtin.«object.__ne__» ⟨[.ref x, .ref y], []⟩) Q E s := by
  have one : wpAny (model prog w) A (callSpecialIfBound? (.ref x) "__eq__" [.ref y]) (fun r s1 => ∃ b, r = some (.bool b) ∧ Q (.done (.ret (.bool (!b)))) s1) E s :=
    PySem.W.ifBound_K X I c.hs c.hf (wpAny_mono h (fun v s1 ⟨b, e, q⟩ => ⟨b, congrArg some e, q⟩) fun _ _ e => e)
  obtain ⟨hp, g, d, tk, os⟩ := s
  unfold Builtin.«object.__ne__»
  repeat (first
    | with_reducible refine wpAny_cRoomFor hu ?_
    | (refine wpAny_bind (m := callSpecialIfBound? (.ref x) (Str.ofString "__eq__") [.ref y]) (wpAny_mono one (fun r s1 hr => by
          obtain ⟨b, rfl, hq⟩ := hr
          repeat (first | exact hq | exact wpAny_pure hq | exact wpAny_truthy_bool hq | (refine wpAny_bind (m := truthy (.bool _)) (wpAny_truthy_bool ?_)) | wp_step)) fun _ _ e => e))
    | wp_step)
theorem call_objNe {Q : Value → Shared → Prop} (X : K.In s.heap) (I : PySem.W.InstAt s.heap x ox C od) (c : NeK K C f) (hu : A.in1.units < cLine)
    (h : wpAny (model prog w) A.in1 (call (.ref f) [.ref x, .ref y]) (fun v s1 => ∃ b, v = .bool b ∧ Q (.bool (!b)) s1) E s) : wpAny (model prog w) A (call (.builtin "object.__ne__") [.ref x, .ref y]) Q E s :=
  wpAny_call (codeAny_call_builtin F.cmp_object.ne.plain F.cmpEntry_ne (PySem.W.check_slot F.cmpKind_ne F.cmpSplit_ne (I.type.andThen (PySem.W.looks_mroIn X c.hm)) (F.cmpArgs_ne _ _) (objNe_own X I c hu h)))
theorem rc_neK {Q : Value → Shared → Prop} (X : K.In s.heap) (I : PySem.W.InstAt s.heap x ox C od) (c : NeK K C f) (hy : s.heap.get? y = some oy) (cy : oy.cls = .ref C) (hu : A.units + 1 < cLine)
    (h : wpAny (model prog w) A.in1 (call (.ref f) [.ref x, .ref y]) (fun v s1 => ∃ b, v = .bool b ∧ Q (.bool (!b)) s1) E s) : wpAny (model prog w) A (richCompare .NotEq (.ref x) (.ref y)) Q E s := by
  have hu0 : A.units < cLine := Nat.lt_of_succ_lt hu
  have run : wpAny (model prog w) A (callSpecialIfBound? (.ref x) "__ne__" [.ref y]) (fun r s1 => ∃ b, r = some (.bool b) ∧ Q (.bool b) s1) E s := by
    simp only [callSpecialIfBound?, bindSpecialIfBound?]
    refine wpAny_holding (wpAny_bind (wpAny_bind (wpAny_bind (I.type.here ((PySem.W.looks_findIn X c.hn).here ?_)))))
    refine wpAny_bind (wpAny_askSetting (wpAny_ite ?_))
    have fin : wpAny (model prog w) A (call (.builtin "object.__ne__") ([.ref x] ++ [.ref y]) >>= fun v => pure (some v)) (fun r s1 => ∃ b, r = some (.bool b) ∧ Q (.bool b) s1) E s :=
      wpAny_bind (wpAny_mono (call_objNe (Q := fun v s1 => ∃ b, v = .bool b ∧ Q (.bool b) s1) X I c hu (wpAny_mono h (fun v s1 ⟨b, e, q⟩ => ⟨b, e, _, rfl, q⟩) fun _ _ e => e)) (fun v s1 ⟨b, e, q⟩ => wpAny_pure ⟨b, congrArg some e, q⟩) fun _ _ e => e)
    split
    · exact wpAny_bind (wpAny_of_eq (F.cmp_object.ne.bind _) (wpAny_pure (by exact fin)))
    · exact wpAny_tryCatch (wpAny_bind (wpAny_of_eq (F.cmp_object.ne.bind _) (wpAny_pure (by exact fin))))
  have one : wpAny (model prog w) A (tryCompare (.ref x) "__ne__" (.ref y)) (fun r s1 => ∃ b, r = some (.bool b) ∧ Q (.bool b) s1) E s := by
    unfold tryCompare
    refine wpAny_bind (wpAny_mono run (fun r s1 z => ?_) fun _ _ e => e)
    obtain ⟨b, rfl, q⟩ := z
    exact wpAny_pure ⟨b, rfl, q⟩
  unfold richCompare
  simp only [oneThing_ref]
  refine wpAny_holding (wpAny_bind (wpAny_cRoomFor hu0 ?_))
  rw [cmpInfo_NotEq]
  dsimp only
  refine wpAny_bind (I.type.here (wpAny_bind (wpAny_typeOf_ref hy ?_)))
  rw [cy, show (Value.ref C != Value.ref C) = false from by simp]
  simp only [Bool.false_eq_true, if_false]
  refine wpAny_bind (wpAny_pure ?_)
  simp only [Bool.false_eq_true, if_false]
  refine wpAny_bind (wpAny_mono one (fun r s1 z => ?_) fun _ _ e => e)
  obtain ⟨b, rfl, q⟩ := z
  exact wpAny_pure q
end
section
variable {X : Cx} {CX : CXT} {n : Nat} {C f : Addr} {fd : FuncData} {ps : List Str} {R : Addr → V → Bool → Hp → Prop} {E : XK}
/-- x != y of two instances of one such class -/
def rNeK (C : Addr) (R : Addr → V → Bool → Hp → Prop) : R2 := fun x y H Q => ∃ a c b dx dy fs gs, x = .ref a ∧ y = .ref c ∧ H a = some (.ins C dx fs) ∧ H c = some (.ins C dy gs) ∧ R a (.ref c) b H ∧ ∀ H', Ext H H' → Q (.bl (!b)) H'
theorem op_neK (G : FnOk X.prog X.w X.K X.mg X.base CX n f fd ps (spEqB R)) (hc : NeK X.K C f) (hb : Binds X.K fd ps []) (hx : Passes CX X E) (hr : Room (n + 1) X.A) : OpR X (compareOp .NotEq) (rNeK C R) := by
  intro pins s σ H x y v u Q I rx ry hq
  obtain ⟨a, c, b, dx, dy, fs, gs, rfl, rfl, ha, hc1, hR, q⟩ := hq
  cases rx
  cases ry
  obtain ⟨mA, J, _⟩ := ins_get I.hok ha
  obtain ⟨mC, J1, _⟩ := ins_get I.hok hc1
  obtain ⟨od, J, _⟩ := J.look
  obtain ⟨od1, J1, _⟩ := J1.look
  have r1 : Room n X.A.in1 := hr.in1
  have go := own_runB (B := X.A.in1) (y := .ref c) (v := .ref c) G hb hx ⟨r1, rfl⟩ I rfl hR
  show wpAny (model X.prog X.w) X.A (richCompare .NotEq (.ref a) (.ref c)) (EP X pins σ Q) X.xe s
  refine rc_neK I.kIn J hc J1.at_ J1.cls (hu_of hr) (wpAny_mono go (fun r s1 z => ?_) fun _ _ e => e)
  cases r with
  | notImplemented => exact False.elim z
  | bool b' =>
    obtain ⟨e, H1, I1, ex⟩ := z
    cases e
    exact ⟨_, rfl, .bl _, H1, I1, rfl, q H1 ex⟩
  | _ => exact (nomatch z.1)
end
end KpR

namespace KpR
open PySem PySem.Spec PyProof.Rows L2
/-- clause by clause: class, the name's slot, the suite's reading; at the end: what is asked where none takes it -/
def wNam (K : PySem.W.Frag) (Wend : WX) (D : Ends) : List (Value × Nat × (Addr → Value → Option Addr → TS)) → WX
  | [] => Wend
  | (c, i, tz) :: r => fun cls d σ H => ∃ b, PySem.W.exmOne K cls c = some b ∧
    (b = true → ∀ a, H a = none → tz a cls d ⟨fun τ G => D.nx (τ.set i none) G, D.rt, fun τ G => D.bk (τ.set i none) G, fun τ G => D.ct (τ.set i none) G⟩ (σ.set i (some (.ref a))) H) ∧ (b = false → wNam K Wend D r cls d σ H)
/-- the clauses that are looked at; more: those behind them, that are never looked at (Wend is then False) -/
inductive NamOk (X : Cx) (more : List ExceptHandler) : List ExceptHandler → List (Value × Nat × (Addr → Value → Option Addr → TS)) → Prop
  | nil : NamOk X more more []
  | cons {x n : Str} {c : Value} {i : Nat} {tz : Addr → Value → Option Addr → TS} {z₀ : Stmt} {rest : List Stmt} {pn pw : Pos} {hs : List ExceptHandler} {l : List (Value × Nat × (Addr → Value → Option Addr → TS))}
      (at_ : X.N[i]? = some n) (lo : X.env.kindOf n = some .local) (nm : Names X x c)
      (su : ∀ (e : Addr) (oe : Obj) (cls : Value) (d : Option Addr) (qn : List (Addr × Obj)), Zc cls d oe → (∃ fs, oe.data = .fields fs) → PSs (X.suite e ((e, oe) :: qn)) (z₀ :: rest) (tz e cls d)) (r : NamOk X more hs l) :
      NamOk X more (.ExceptHandler (some (.Name x pn)) (some n) (z₀ :: rest) pw :: hs) ((c, i, tz) :: l)
section
variable {X : Cx} {body : List Stmt} {more : List ExceptHandler} {h₀ : ExceptHandler} {hds : List ExceptHandler} {l : List (Value × Nat × (Addr → Value → Option Addr → TS))} {pt : Pos} {tb : WX → TS}
theorem ps_try_nam (st : X.stack = X.env :: X.outer) (fr : X.env.frame = some X.env.locals) (nd : X.N.Nodup)
    (bd : ∀ (W : WX) (qn : List (Addr × Obj)) (xe : Value → Shared → Prop), Takes (X.tr qn xe) W → PassesOwn (model X.prog X.w) X.A X.env xe → PSs (X.tr qn xe) body (tb W))
    (hk : NamOk X more (h₀ :: hds) l) : PS X (.Try body (h₀ :: hds) [] [] pt) (fun D σ H => tb (wNam X.K (fun _ _ _ _ => False) D l) D σ H) := by
  refine ⟨fun pins s σ H D I hyp => ?_⟩
  have okX := I.ok
  have afr : X.A.frames = some (X.env :: X.outer) := by rw [okX.frames, st]
  refine wpAny_Try_except ?_
  refine wpAny_mono ((bd (wNam X.K (fun _ _ _ _ => False) D l) (X.pn ++ pins) (fun e t1 => wpAny (model X.prog X.w) X.A (noteFrame e X.env) (fun _ t2 => wpAny (model X.prog X.w) X.A (setFlight e none) (fun _ t3 =>
    wpAny (model X.prog X.w) X.A (handleBy e X.env (h₀ :: hds)) (SP X pins D) X.xe t3) X.xe t2) X.xe t1) (fun u t air => ?_) PassesOwn.looking).run [] s σ H D (I.toTry _) hyp) (fun f t done => ?_) (fun _ _ air => air)
  · obtain ⟨e, G, sI, pq, τ, H1, cls, d, rfl, J0, near, upS, sky0, free, osE, bare, want⟩ := air
    have J : Inv X pins τ H1 sI := J0.ofTry okX
    have sky : Sky G (X.env :: X.outer) e (Zc cls d) X.env.locals t.heap := by rw [← st] <;> exact sky0
    show wpAny (model X.prog X.w) X.A (noteFrame (.ref e) X.env) _ _ _
    refine Sky.land Zc.steady afr fr sky fun hp1 fly1 up1 => ?_
    have J1 : Inv X pins τ H1 { t with heap := hp1 } := J.landed near fly1.1 (upS.trans up1) osE bare
    obtain ⟨o1, fs1, at1, z1, dat1⟩ := fly1.there
    have off : e ∉ frs (X.env :: X.outer) := fun mem => by
      obtain ⟨_, o2, at2, no2⟩ := fly1.2.2.1.mem mem
      have q : o1 = o2 := Option.some.inj (at1.symm.trans at2)
      subst q
      exact no2 _ dat1
    have offL : e ≠ X.env.locals := fun q => off (List.mem_filterMap.mpr ⟨X.env, List.mem_cons_self, by rw [fr, q]⟩)
    have offF : e ∉ X.fs := fun mem => by
      obtain ⟨y, hy, q⟩ := List.mem_filterMap.mp mem
      exact off (List.mem_filterMap.mpr ⟨y, List.mem_cons_of_mem _ hy, q⟩)
    have S1 := J1.suite at1 dat1 free offL offF
    have ty : PySem.W.Looks (model X.prog X.w) hp1 (typeOf (.ref e)) cls := fun A Q E s k q => wpAny_typeOf_ref (k _ _ at1) (by rw [z1.1] <;> exact q)
    have each : ∀ {hs : List ExceptHandler} {l' : List (Value × Nat × (Addr → Value → Option Addr → TS))}, NamOk X more hs l' → wNam X.K (fun _ _ _ _ => False) D l' cls d τ H1 →
        wpAny (model X.prog X.w) X.A (handleBy (.ref e) X.env hs) (SP X pins D) X.xe { t with heap := hp1 } := by
      intro hs l' ok
      induction ok with
      | nil => exact fun w => w.elim
      | @cons x n c i tz z₀ rest pn pw hs2 l2 at_ lo nm su r ih =>
        rintro ⟨b, hit, go, on⟩
        have lcl : Loc X.env.scope n := .inl lo
        refine wpAny_handleBy_cons (codeAny_handlers_test ?_) (fun q => nomatch q)
        have mt := PySem.W.exm_one (M := model X.prog X.w) (J1.kIn) ty hit
        have look : ∀ {Q : Value → Shared → Prop} {E : Value → Shared → Prop}, Q c { t with heap := hp1 } → wpAny (model X.prog X.w) (X.A.mark (some (.ref e))) (eval (.Name x pn) X.env) Q E { t with heap := hp1 } := fun {Q E} q => by
          obtain ⟨gl, nd2, own | ⟨none_, boot, nn⟩⟩ := nm
          · exact ld_glob (X := X.suite e ((e, o1) :: (X.pn ++ pins))) S1 gl own q nd2
          · exact ld_blt (X := X.suite e ((e, o1) :: (X.pn ++ pins))) S1 gl none_ boot q nn nd2
        refine look (mt.here ?_)
        cases b with
        | false =>
          show wpAny _ X.A (handleBy (.ref e) X.env hs2) _ _ _
          exact ih (on rfl)
        | true =>
          refine codeAny_handlers_suite_as ?_
          refine HandSPX.lands_againZ fly1 fun hp2 fly2 up2 => ?_
          have J2 : Inv X pins τ H1 { t with heap := hp2 } := J.landed near fly2.1 ((upS.trans up1).trans up2) osE bare
          obtain ⟨o2, fs2, at2, z2, dat2⟩ := fly2.there
          have S2 := J2.suite at2 dat2 free offL offF
          refine store_ok (X := X.suite e ((e, o2) :: (X.pn ++ pins))) (v := .ref e) S2 nd at_ lcl rfl (fun t2 S3 => ?_) (.inr lo)
          refine wpAny_mono ((su e o2 cls d (X.pn ++ pins) z2 ⟨_, dat2⟩).run [] t2 _ H1 _ S3 (go rfl e free)) (fun f t3 out => ?_) (fun _ _ q => False.elim q)
          have fin : ∀ {τ1 : L2.St} {H2 : Hp} {R : Shared → Prop}, Inv (X.suite e ((e, o2) :: (X.pn ++ pins))) [] τ1 H2 t3 → (∀ t4, Inv X pins (τ1.set i none) H2 t4 → R t4) →
              wpAny (model X.prog X.w) X.A (do bindName X.env n .none; unbindBehindTheSuite X.env n pw) (fun _ t4 => R t4) X.xe t3 := fun {τ1 H2 R} S4 q => gone_ok (S4.unsuite okX) nd at_ lo q
          match f, out with
          | .next, ⟨_, _, S4, q⟩ => exact fin S4 fun _ J4 => ⟨_, _, J4, q⟩
          | .brk, ⟨_, _, S4, q⟩ => exact fin S4 fun _ J4 => ⟨_, _, J4, q⟩
          | .cont, ⟨_, _, S4, q⟩ => exact fin S4 fun _ J4 => ⟨_, _, J4, q⟩
          | .ret u, ⟨_, _, _, S4, ru, q⟩ => exact fin S4 fun _ J4 => ⟨_, _, _, J4, ru, q⟩
    exact each hk want
  · match f, done with
    | .next, ⟨_, _, J4, q⟩ => exact wpAny_execs_nil ⟨_, _, J4.ofTry okX, q⟩
    | .brk, ⟨_, _, J4, q⟩ => exact ⟨_, _, J4.ofTry okX, q⟩
    | .cont, ⟨_, _, J4, q⟩ => exact ⟨_, _, J4.ofTry okX, q⟩
    | .ret u, ⟨_, _, _, J4, ru, q⟩ => exact ⟨_, _, _, J4.ofTry okX, ru, q⟩
end
end KpR

namespace KpR
open PySem PySem.Spec PyProof.Rows L2
open PySem.AutoSeq1 (wpAny_loadPart')
section
variable {prog : Program} {w : World} {A : Around} {R : Result → Shared → Prop}
/-- up to the first pair that is unlike -/
theorem tup_either (l b : Addr) (us vs : Array Value) (n n2 : Nat) (dd dd2 : Option Addr) (sl sl2 : Array (Option Value)) (ans : Nat → Bool) (J : Shared → Prop)
    (turn : ∀ i (h1 : i < us.size) (h2 : i < vs.size) s, J s → wpAny (model prog w) A.in1 (eqBool us[i] vs[i]) (fun r s' => r = ans i ∧ J s') (fun e s' => R (.error e) s') s)
    (no : ∀ i, i < us.size → i < vs.size → ans i = false → ∀ s, J s → R (.ok (.ret (.bool false))) s)
    (fin : (∀ i, i < us.size → i < vs.size → ans i = true) → ∀ s, J s → R (.ok (.ret (.bool (us.size == vs.size)))) s) {s : Shared}
    (hl : s.heap.get? l = some { cls := .type "tuple", dict := dd, data := .seq us n, slots := sl }) (hb : s.heap.get? b = some { cls := .type "tuple", dict := dd2, data := .seq vs n2, slots := sl2 }) (h : J s) :
    wpAny (model prog w) A.in1 (Builtin.«tuple.__eq__» ⟨[.ref l, .ref b], []⟩) (GQ.FinOf prog w A R) (fun e s' => R (.error e) s') s := by
  have f2 := AutoSeq1.sub_tuple_tuple
  have zl : (us.toList.zip vs.toList).length = min us.size vs.size := by simp
  have h0 := h
  obtain ⟨hp, g, d, tk, os⟩ := s
  wp_walk using wpAny_loadPart' hl, wpAny_loadPart' hb, wpAny_forIn_list _ (fun rest q s' => q.1 = none ∧ J s' ∧ ∃ i, rest = (us.toList.zip vs.toList).drop i ∧ i ≤ min us.size vs.size ∧ ∀ j, j < i → ans j = true) _
  case turn =>
    rintro ⟨y, x⟩ rest q s' ⟨hq, hJ, i, hz, hi, before⟩
    have lt : i < (us.toList.zip vs.toList).length := by
      rcases Nat.lt_or_ge i (us.toList.zip vs.toList).length with c | c
      · exact c
      · rw [List.drop_of_length_le c] at hz
        cases hz
    have lm := Nat.lt_min.mp (zl ▸ lt)
    rw [List.drop_eq_getElem_cons lt] at hz
    injection hz with hp1 hrest
    have ey : y = us[i]'lm.1 := by simpa using congrArg Prod.fst hp1
    have ex : x = vs[i]'lm.2 := by simpa using congrArg Prod.snd hp1
    subst ey ex
    refine wpAny_bind (wpAny_mono (turn i lm.1 lm.2 s' hJ) (fun r s2 z => ?_) fun _ _ e => e)
    obtain ⟨rfl, J2⟩ := z
    cases c : ans i with
    | true =>
      wp_walk
      refine ⟨rfl, J2, i + 1, hrest, Nat.lt_min.mpr lm, fun j hj => ?_⟩
      by_cases e : j = i
      · rw [e]
        exact c
      · exact before j (by omega)
    | false =>
      have out := no i lm.1 lm.2 c s2 J2
      wp_walk
      exact out
  case fin =>
    rintro ⟨q1, q2⟩ s' ⟨hq, hJ, i, hz, hi, before⟩
    simp only at hq
    subst hq
    have ge : min us.size vs.size ≤ i := by
      rcases Nat.lt_or_ge i (us.toList.zip vs.toList).length with c | c
      · rw [List.drop_eq_getElem_cons c] at hz
        cases hz
      · exact zl ▸ c
    have out := fin (fun j h1 h2 => before j (Nat.lt_of_lt_of_le (Nat.lt_min.mpr ⟨h1, h2⟩) ge)) s' hJ
    wp_walk
    simpa [Builtin.Tuple.tupleCompareSizes] using out
  case h =>
    exact ⟨rfl, h0, 0, rfl, Nat.zero_le _, fun j hj => absurd hj (Nat.not_lt_zero _)⟩
end
/-- pair by pair; the answer is that of all of them, and of the lengths -/
def DTupB (K : PySem.W.Frag) (D : EqvB) : EqvB := fun x y b H => ∃ a c xs ys, ∃ an : Nat → Bool, x = .ref a ∧ y = .ref c ∧ SqT K H a xs ∧ SqT K H c ys ∧
  (∀ i u v, xs[i]? = some u → ys[i]? = some v → ∀ H', Ext H H' → D u v (an i) H') ∧ (b = true ↔ xs.length = ys.length ∧ ∀ i, i < xs.length → an i = true)
section
variable {X : Cx} {n : Nat} {D : EqvB}
theorem rcB_tup (h : EqB X n D) : RcB X (n + 1) (DTupB X.K D) := by
  intro B pins s σ H x y b u v sb I rx ry hd
  obtain ⟨a, c, xs, ys, an, rfl, rfl, ha, hc, hp, hb⟩ := hd
  cases rx
  cases ry
  obtain ⟨us, r1, ⟨⟨cl, dd, dt, sl⟩, e1, e2, k, e3⟩, _⟩ := I.tuple ha
  obtain ⟨vs, r2, ⟨⟨cl2, dd2, dt2, sl2⟩, g1, g2, k2, g3⟩, _⟩ := I.tuple hc
  simp only at e2 e3 g2 g3
  subst e2 e3 g2 g3
  have l1 : us.toArray.size = xs.length := by rw [List.size_toArray, r1.length]
  have l2 : vs.toArray.size = ys.length := by rw [List.size_toArray, r2.length]
  refine wpAny_richCompare_same_room (op := .Eq) ⟨_, e1, rfl⟩ ⟨_, g1, rfl⟩ F.slot_tuple_eq (GQ.call_here F.slot_tuple_eq ⟨_, e1, rfl⟩ F.entry_tuple_eq (F.args_tuple_eq_2 _ _) ?_) sb.room.units0
  refine tup_either (R := wants (fun r s' => r ≠ .notImplemented ∧ (r = .bool b ∧ LoopI X pins σ H s')) X.xe) a c us.toArray vs.toArray k k2 dd dd2 sl sl2 an (LoopI X pins σ H) (fun i h1 h2 s1 hJ => ?_) (fun i h1 h2 no s1 hJ => ?_) (fun all s1 hJ => ?_) e1 g1 ⟨H, I, Ext.rfl'⟩
  · obtain ⟨H1, I1, x1⟩ := hJ
    have i1 : i < xs.length := by omega
    have i2 : i < ys.length := by omega
    obtain ⟨p, hp1, rp⟩ := r1.get (List.getElem?_eq_getElem i1)
    obtain ⟨q, hq1, rq⟩ := r2.get (List.getElem?_eq_getElem i2)
    have ep : us.toArray[i] = p := by
      obtain ⟨_, z⟩ := List.getElem?_eq_some_iff.mp hp1
      simpa using z
    have eq : vs.toArray[i] = q := by
      obtain ⟨_, z⟩ := List.getElem?_eq_some_iff.mp hq1
      simpa using z
    rw [ep, eq]
    refine wpAny_mono (h B.in1 pins s1 σ H1 _ _ (an i) p q sb.in1 I1 rp rq (hp i _ _ (List.getElem?_eq_getElem i1) (List.getElem?_eq_getElem i2) H1 x1)) (fun r s2 z => ?_) fun _ _ e => e
    obtain ⟨er, H2, I2, x2⟩ := z
    exact ⟨er, H2, I2, x1.trans x2⟩
  · have eb : b = false := by
      cases b with
      | false => rfl
      | true =>
        have z := (hb.mp rfl).2 i (by omega)
        rw [no] at z
        cases z
    subst eb
    exact ⟨(fun z => nomatch z), rfl, hJ⟩
  · have eb : (us.toArray.size == vs.toArray.size) = b := by
      rw [l1, l2]
      cases b with
      | true => exact beq_iff_eq.mpr (hb.mp rfl).1
      | false =>
        refine beq_eq_false_iff_ne.mpr fun e => ?_
        have z := hb.mpr ⟨e, fun i hi => all i (by omega) (by omega)⟩
        cases z
    rw [eb]
    exact ⟨(fun z => nomatch z), rfl, hJ⟩
end
end KpR

namespace KpR
open PySem PySem.Spec PyProof.Rows L2
open PySem.AutoSeq1 (wpAny_loadPart')
section
variable {prog : Program} {w : World} {A : Around} {R : Result → Shared → Prop}
theorem tup_ne_like (l b : Addr) (us vs : Array Value) (n n2 : Nat) (dd dd2 : Option Addr) (sl sl2 : Array (Option Value)) (sz : us.size = vs.size) (J : Shared → Prop)
    (turn : ∀ i (h1 : i < us.size) (h2 : i < vs.size) s, J s → wpAny (model prog w) A.in1 (eqBool us[i] vs[i]) (fun r s' => r = true ∧ J s') (fun e s' => R (.error e) s') s)
    (fin : ∀ s, J s → R (.ok (.ret (.bool false))) s) {s : Shared}
    (hl : s.heap.get? l = some { cls := .type "tuple", dict := dd, data := .seq us n, slots := sl }) (hb : s.heap.get? b = some { cls := .type "tuple", dict := dd2, data := .seq vs n2, slots := sl2 }) (h : J s) :
    wpAny (model prog w) A.in1 (Builtin.«tuple.__ne__» ⟨[.ref l, .ref b], []⟩) (GQ.FinOf prog w A R) (fun e s' => R (.error e) s') s := by
  have f2 := AutoSeq1.sub_tuple_tuple
  have zl : (us.toList.zip vs.toList).length = us.size := by simp [sz]
  have h0 := h
  obtain ⟨hp, g, d, tk, os⟩ := s
  wp_walk using wpAny_loadPart' hl, wpAny_loadPart' hb, wpAny_forIn_list _ (fun rest q s' => q.1 = none ∧ J s' ∧ ∃ i, rest = (us.toList.zip vs.toList).drop i ∧ i ≤ us.size) _
  case turn =>
    rintro ⟨y, x⟩ rest q s' ⟨hq, hJ, i, hz, hi⟩
    have lt : i < (us.toList.zip vs.toList).length := by
      rcases Nat.lt_or_ge i (us.toList.zip vs.toList).length with c | c
      · exact c
      · rw [List.drop_of_length_le c] at hz
        cases hz
    have l1 : i < us.size := zl ▸ lt
    have l2 : i < vs.size := sz ▸ l1
    rw [List.drop_eq_getElem_cons lt] at hz
    injection hz with hp1 hrest
    have ey : y = us[i] := by simpa using congrArg Prod.fst hp1
    have ex : x = vs[i] := by simpa using congrArg Prod.snd hp1
    subst ey ex
    refine wpAny_bind (wpAny_mono (turn i l1 l2 s' hJ) (fun r s2 z => ?_) fun _ _ e => e)
    obtain ⟨rfl, J2⟩ := z
    wp_walk
    exact ⟨rfl, J2, i + 1, hrest, l1⟩
  case fin =>
    rintro ⟨q1, q2⟩ s' ⟨hq, hJ, i, hz, hi⟩
    simp only at hq
    subst hq
    have out := fin s' hJ
    wp_walk
    simpa [Builtin.Tuple.tupleCompareSizes, sz] using out
  case h =>
    exact ⟨rfl, h0, 0, rfl, Nat.zero_le _⟩
end
section
variable {X : Cx} {n : Nat} {D : EqvB}
/-- x != y, two tuples that are equal pair by pair -/
def rNeTup (K : PySem.W.Frag) (D : EqvB) : R2 := fun x y H Q => ∃ (a c : Addr) (xs ys : List V), x = .ref a ∧ y = .ref c ∧ SqT K H a xs ∧ SqT K H c ys ∧ xs.length = ys.length ∧
  (∀ (i : Nat) (u v : V), xs[i]? = some u → ys[i]? = some v → ∀ H' : Hp, Ext H H' → D u v true H') ∧ ∀ H' : Hp, Ext H H' → Q (.bl false) H'
theorem op_neTup (h : EqB X n D) (hr : Room (n + 1) X.A) : OpR X (compareOp .NotEq) (rNeTup X.K D) := by
  intro pins s σ H x y u v Q I rx ry hd
  obtain ⟨a, c, xs, ys, rfl, rfl, ha, hc, hlen, hp, q⟩ := hd
  cases rx
  cases ry
  obtain ⟨us, r1, ⟨⟨cl, dd, dt, sl⟩, e1, e2, k, e3⟩, _⟩ := I.tuple ha
  obtain ⟨vs, r2, ⟨⟨cl2, dd2, dt2, sl2⟩, g1, g2, k2, g3⟩, _⟩ := I.tuple hc
  simp only at e2 e3 g2 g3
  subst e2 e3 g2 g3
  have l1 : us.toArray.size = xs.length := by rw [List.size_toArray, r1.length]
  have l2 : vs.toArray.size = ys.length := by rw [List.size_toArray, r2.length]
  have sb : Sub X (n + 1) X.A := ⟨hr, rfl⟩
  show wpAny (model X.prog X.w) X.A (richCompare .NotEq (.ref a) (.ref c)) (EP X pins σ Q) X.xe s
  refine wpAny_richCompare_same_room (op := .NotEq) ⟨_, e1, rfl⟩ ⟨_, g1, rfl⟩ F.slot_tuple_ne (GQ.call_here F.slot_tuple_ne ⟨_, e1, rfl⟩ F.entry_tuple_ne (F.args_tuple_ne_2 _ _) ?_) hr.units0
  refine tup_ne_like (R := wants (fun r s' => r ≠ .notImplemented ∧ EP X pins σ Q r s') X.xe) a c us.toArray vs.toArray k k2 dd dd2 sl sl2 (by omega) (LoopI X pins σ H) (fun i h1 h2 s1 hJ => ?_) (fun s1 hJ => ?_) e1 g1 ⟨H, I, Ext.rfl'⟩
  · obtain ⟨H1, I1, x1⟩ := hJ
    have i1 : i < xs.length := by omega
    have i2 : i < ys.length := by omega
    obtain ⟨p, hp1, rp⟩ := r1.get (List.getElem?_eq_getElem i1)
    obtain ⟨q1, hq1, rq⟩ := r2.get (List.getElem?_eq_getElem i2)
    have ep : us.toArray[i] = p := by
      obtain ⟨_, z⟩ := List.getElem?_eq_some_iff.mp hp1
      simpa using z
    have eq : vs.toArray[i] = q1 := by
      obtain ⟨_, z⟩ := List.getElem?_eq_some_iff.mp hq1
      simpa using z
    rw [ep, eq]
    refine wpAny_mono (h X.A.in1 pins s1 σ H1 _ _ true p q1 sb.in1 I1 rp rq (hp i _ _ (List.getElem?_eq_getElem i1) (List.getElem?_eq_getElem i2) H1 x1)) (fun r s2 z => ?_) fun _ _ e => e
    obtain ⟨er, H2, I2, x2⟩ := z
    exact ⟨er, H2, I2, x1.trans x2⟩
  · obtain ⟨H1, I1, x1⟩ := hJ
    exact ⟨(fun z => nomatch z), .bl false, H1, I1, rfl, q H1 x1⟩
end
end KpR

namespace KpR
open PySem PySem.Spec PyProof.Rows L2
section
variable {α : Type} {K : PySem.W.Frag} {H : Hp} {f : α → PyData}
theorem dp_map {R : V → α → Prop} (h : ∀ t x, R t x → Dp K H t (f x)) : ∀ {ts : List V} {l : List α}, A2 R ts l → DpAll K H ts (l.map f)
  | [], [], _ => .nil
  | _ :: _, _ :: _, k => .cons (h _ _ k.1) (dp_map h k.2)
  | [], _ :: _, k => k.elim
  | _ :: _, [], k => k.elim
theorem lay_map : ∀ {l : List α}, (∀ x ∈ l, (f x).canLay0 = true) → PyData.canLayAll0 (l.map f) = true
  | [], _ => by simp [PyData.canLayAll0]
  | x :: l, h => by
    simp only [List.map_cons, PyData.canLayAll0, h x (List.mem_cons_self ..), Bool.true_and]
    exact lay_map fun y hy => h y (List.mem_cons_of_mem _ hy)
theorem dep_map {n : Nat} : ∀ {l : List α}, (∀ x ∈ l, (f x).depth ≤ n) → PyData.depthAll (l.map f) ≤ n
  | [], _ => by simp [PyData.depthAll]
  | x :: l, h => by
    simp only [List.map_cons, PyData.depthAll]
    exact Nat.max_le.mpr ⟨h x (List.mem_cons_self ..), dep_map fun y hy => h y (List.mem_cons_of_mem _ hy)⟩
theorem eqv_map [DecidableEq α] (h : ∀ x y, (f x).eqv (f y) = decide (x = y)) : ∀ {l m : List α}, PyData.eqvAll (l.map f) (m.map f) = decide (l = m)
  | [], [] => by simp [PyData.eqvAll]
  | [], _ :: _ => by simp [PyData.eqvAll]
  | _ :: _, [] => by simp [PyData.eqvAll]
  | x :: l, y :: m => by
    simp only [List.map_cons, PyData.eqvAll, h, eqv_map h (l := l) (m := m)]
    by_cases h1 : x = y
    · by_cases h2 : l = m <;> simp [h1, h2]
    · simp [h1]
/-- what can be compared: of no great depth -/
structure Flat (n : Nat) (d : PyData) : Prop where
  lay : d.canLay0 = true
  dep : d.depth ≤ n
theorem Flat.sh {n : Nat} {d : PyData} (h : Flat n d) (hn : n ≤ 64) : SeqAt.shaped d = true := by
  unfold SeqAt.shaped
  rw [h.lay, decide_eq_true (Nat.le_trans h.dep hn)]
  rfl
theorem Flat.list {n : Nat} {l : List α} (h : ∀ x ∈ l, Flat n (f x)) : Flat (n + 1) (.list (l.map f)) :=
  ⟨by simp only [PyData.canLay0]; exact lay_map fun x hx => (h x hx).lay, by simp only [PyData.depth]; exact Nat.succ_le_succ (dep_map fun x hx => (h x hx).dep)⟩
theorem Flat.tup {n : Nat} {l : List α} (h : ∀ x ∈ l, Flat n (f x)) : Flat (n + 1) (.tuple (l.map f)) :=
  ⟨by simp only [PyData.canLay0]; exact lay_map fun x hx => (h x hx).lay, by simp only [PyData.depth]; exact Nat.succ_le_succ (dep_map fun x hx => (h x hx).dep)⟩
theorem Flat.int {n : Nat} {i : Int} : Flat n (.int i) := ⟨rfl, Nat.zero_le _⟩
theorem Flat.bl {n : Nat} {b : Bool} : Flat n (.bool b) := ⟨rfl, Nat.zero_le _⟩
theorem Flat.non {n : Nat} : Flat n .none := ⟨rfl, Nat.zero_le _⟩
theorem Flat.str {n : Nat} {x : Str} (h : (PyData.str x).canLay0 = true) : Flat n (.str x) := ⟨h, Nat.zero_le _⟩
theorem Flat.mono {n m : Nat} {d : PyData} (h : Flat n d) (k : n ≤ m) : Flat m d := ⟨h.lay, Nat.le_trans h.dep k⟩
theorem eqv_int {i j : Int} : PyData.eqv (.int i) (.int j) = decide (i = j) := by
  simp only [PyData.eqv]
  by_cases h : i = j <;> simp [h]
/-- != and == of data -/
theorem neD {x y : V} {d e : PyData} {Q : VK} (h1 : Dp K H x d) (h2 : Dp K H y e) (f1 : Flat 60 d) (f2 : Flat 60 e) (q : Q (.bl (!PyData.eqv d e)) H) : rNeD K x y H Q := ⟨d, e, h1, h2, f1.sh (by decide), f2.sh (by decide), q⟩
theorem eqD {x y : V} {d e : PyData} {Q : VK} (h1 : Dp K H x d) (h2 : Dp K H y e) (f1 : Flat 60 d) (f2 : Flat 60 e) (q : Q (.bl (PyData.eqv d e)) H) : rEqD K x y H Q := ⟨d, e, h1, h2, f1.sh (by decide), f2.sh (by decide), q⟩
end
end KpR

namespace KpR
open PySem PySem.Spec PySem.Calls PyProof.Rows L2
section
variable {prog : Program} {w : World} {K : PySem.W.Frag} {x D : Addr}
/-- what a class says of itself on its instances, whatever fields they have -/
theorem fo_class {od : Option Obj} (hc : (PySem.W.clsIn K D).isSome = true) (ha : PySem.W.findIn K (.ref D) "__class__" = some (some (.builtin "object.__class__"))) (hg : PySem.W.specialIn K (.builtin "object.__class__") "__get__" = some (some (.builtin "getset_descriptor.__get__"))) (ht : PySem.W.takesIn K (.builtin "object.__class__") = some true) :
    PySem.W.findObj K D od "__class__" = some (.bind (.builtin "getset_descriptor.__get__") (.builtin "object.__class__")) := by
  obtain ⟨cd, q⟩ := Option.isSome_iff_exists.mp hc
  unfold PySem.W.findObj
  rw [q, Option.bind_some, ha, Option.bind_some]
  simp [hg, ht]
theorem exc_class (C : ExcC K D) {A : Around} {E : Value → Shared → Prop} {Q : Option Value → Shared → Prop} {s : Shared} {ox : Obj} {od : Option Obj} (X : K.In s.heap) (J : PySem.W.InstAt s.heap x ox D od) (q : Q (some (.ref D)) { s with toks := s.toks + 1 }) :
    wpAny (model prog w) A (getAttr? (.ref x) "__class__") Q E s := by
  have fo : PySem.W.findObj K D od "__class__" = _ := fo_class (by obtain ⟨cd, hc, _⟩ := PySem.W.any_some C.hd; rw [hc]; rfl) C.ha C.hn C.ht
  obtain ⟨hp, sg, sd, st, so⟩ := s
  have ty := J.type (M := model prog w)
  have l1 := PySem.W.looks_findIn (M := model prog w) X C.hg
  have l2 := PySem.W.looks_findIn (M := model prog w) X C.hk
  have l3 := PySem.W.looks_find (M := model prog w) X J fo
  have isx : PySem.W.Looks (model prog w) hp (isInstance (.ref x) (.type "BaseException")) true := ty.andThen (PySem.W.looks_subIn X C.hs)
  have n1 : (Value.builtin "BaseException.__getattribute__" == Value.builtin "object.__getattribute__") = false := by decide +kernel
  have n2 : (onTheHeap (Value.ref D) && Value.builtin "BaseException.__getattribute__" == Value.builtin "object.__getattribute__") = false := by rw [n1]; rfl
  have n3 : (false && onTheHeap (Value.builtin "BaseException.__getattribute__")) = false := rfl
  unfold getAttr? getAttrBy? getAttrBy
  refine wpAny_bind (wpAny_mkText (wpAny_bind (wpAny_attempt (wpAny_holding (wpAny_bind (ty.at (wpAny_bind (l1.at ?_))))))))
  refine (congrArg (fun c : Bool => wpAny (model prog w) A (if c = true then _ else _) _ _ _) n2).mpr ?_
  rw [if_neg Bool.false_ne_true]
  unfold getAttrByItsOwn hookBefore
  refine wpAny_bind ?_
  rw [if_pos (show onTheHeap (Value.ref D) = true from rfl)]
  refine l2.at (wpAny_bind (wpAny_attempt (wpAny_holding ?_)))
  unfold callGetattribute
  rw [n3, if_neg Bool.false_ne_true]
  unfold boundAndCalled
  rw [PySem.F.excAttr_ValueError.ga.bind (.ref x)]
  refine wpAny_bind (wpAny_pure (show wpAny _ _ (call (.builtin "BaseException.__getattribute__") [.ref x, .str "__class__" st]) _ _ _ from ?_))
  refine wpAny_call (codeAny_call_builtin PySem.F.excAttr_ValueError.ga.plain PySem.F.entry_bexc_ga ?_)
  refine @PySem.W.check_slot (model prog w) _ _ ⟨hp, sg, sd, st + 1, so⟩ "BaseException.__getattribute__" "BaseException" "__getattribute__" (.ref x) [.str "__class__" st] [] _ (by decide +kernel) (by decide +kernel) isx (PySem.F.args_bexc_ga (.ref x) (.str "__class__" st)) ?_
  unfold Builtin.«object.__getattribute__»
  refine wpAny_bind (wpAny_of_eq (a := ((Value.ref x : Value), [Value.str "__class__" st])) (by first | rfl | (simp only [slotArgs]; rfl)) (wpAny_bind (wpAny_pure (wpAny_bind (ty.at (wpAny_bind (l3.at ?_)))))))
  show wpAny _ _ (holding [Value.builtin "object.__class__"] (call (.builtin "getset_descriptor.__get__") [.builtin "object.__class__", .ref x, .ref D]) >>= ret) _ _ _
  refine wpAny_bind (wpAny_holding (wpAny_call (PySem.W.class_get (s := ⟨hp, sg, sd, st + 1, so⟩) (ox := ox) (od := od) X J C.hm (wpAny_pure ?_))))
  show wpAny _ _ (handedOut (.ref D)) _ _ _
  rw [PySem.W.handedOut_of (v := .ref D) rfl]
  first
    | exact wpAny_pure (wpAny_pure q)
    | exact wpAny_pure q
    | exact wpAny_pure (wpAny_bind (wpAny_pure (wpAny_pure q)))
theorem kit_exd (C : ExcC K D) : PySem.W.KitX K (.ref x) (.ref D) (fun h => ∃ ox od, PySem.W.InstAt h x ox D od) := by
  obtain ⟨cdD, hcD, _⟩ := PySem.W.any_some C.hd
  have at_ : ∃ (o : Obj) (cd : ClassData), K.lookup D = some o ∧ o.data = .cls cd := by
    unfold PySem.W.clsIn at hcD
    split at hcD
    · rename_i ho
      exact ⟨_, _, ho, rfl⟩
    · cases hcD
  obtain ⟨o, cd, ho, hd⟩ := at_
  refine ⟨fun _ _ _ ⟨_, _, J⟩ => J.type, fun _ _ X _ => ?_, fun h tp dd its n sl X e => ?_, fun X ⟨_, _, J⟩ q => exc_class C X J q⟩
  · intro A' Q' E' s' k q
    unfold isType loadHead
    obtain ⟨oc, od, oda, osl⟩ := o
    cases hd
    exact wpAny_bind (wpAny_loadPart (k _ _ (X _ _ ho)) (wpAny_pure q))
  · refine Bool.eq_false_iff.mpr fun z => ?_
    obtain rfl := Value.ref.inj (beq_iff_eq.mp z)
    have z := (X _ _ ho).symm.trans e
    cases z
    cases hd
end
/-- isinstance(e, c), e the exception that the suite holds, of whatever fields -/
def rIsX (K : PySem.W.Frag) (a D : Addr) (cls : Value) (d : Option Addr) : List V → Hp → VK → Prop := fun xs H Q => ∃ (c : V) (cv : Value) (b : Bool) (dd : Addr) (fs : List (Str × V)), xs = [.ref a, c] ∧ (∀ u, RelV c u → u = cv) ∧ PySem.W.kitOne K (.ref D) cv = some b ∧ cls = .ref D ∧ d = some dd ∧ H dd = some (.xd fs) ∧ Q (.bl b) H
theorem call_isX {X : Cx} {a D : Addr} {oe : Obj} {d : Option Addr} {pn : List (Addr × Obj)} {cls : Value} (C : ExcC X.K D) (hz : Zc cls d oe) (hf : ∃ vs, oe.data = .fields vs) :
    CallR (X.suite a ((a, oe) :: pn)) (.builtin "isinstance") (rIsX X.K a D cls d) := by
  intro pins s σ H xs us Q I r h
  obtain ⟨c, cv, b, dd, fs, rfl, hcv, e, rfl, rfl, hdd, q⟩ := h
  cases r with
  | cons rx rr =>
    cases rr with
    | cons rt rr =>
      cases rr
      cases rx
      obtain rfl := hcv _ rt
      obtain ⟨hget, _⟩ := I.pin (a, oe) (List.mem_append_left _ List.mem_cons_self)
      obtain ⟨vs, hv⟩ := hf
      obtain ⟨mA, hns, _⟩ : ObjOk X.prog X.w H s.heap dd (.xd fs) := I.hok dd _ hdd
      obtain ⟨od, ho, _⟩ := lookIn_ns hns
      have J : PySem.W.InstAt s.heap a oe D (some od) := ⟨hget, hz.1, by unfold PySem.W.notCls; rw [hv] <;> rfl, by rw [hz.2]; exact ho⟩
      exact PySem.W.kia_one (kit_exd C) I.kIn ⟨_, _, J⟩ e (fun z => nomatch z) fun tk => ⟨.bl b, H, I.kept (t' := tk) fun _ _ z => z, rfl, q⟩
end KpR

namespace KpR
open PySem PySem.Spec PyProof.Rows L2
section
variable {prog : Program} {w : World} {A : Around} {E : Value → Shared → Prop} {s : Shared} {K : PySem.W.Frag} {x y C C' f : Addr} {ox oy : Obj} {od : Option Obj}
theorem rc_neX {Q : Value → Shared → Prop} (X : K.In s.heap) (I : PySem.W.InstAt s.heap x ox C od) (c : NeK K C f) (hy : s.heap.get? y = some oy) (cy : oy.cls = .ref C') (nf : PySem.W.notFirst K C (.ref C') = true) (hu : A.units + 1 < cLine)
    (h : wpAny (model prog w) A.in1 (call (.ref f) [.ref x, .ref y]) (fun v s1 => ∃ b, v = .bool b ∧ Q (.bool (!b)) s1) E s) : wpAny (model prog w) A (richCompare .NotEq (.ref x) (.ref y)) Q E s := by
  by_cases ne : C' = C
  · exact rc_neK X I c hy (by rw [cy, ne]) hu h
  have hsub : PySem.W.subIn K (.ref C') (.ref C) = some false := by
    unfold PySem.W.notFirst at nf
    rcases Bool.or_eq_true_iff.mp nf with k | k
    · exact absurd (Value.ref.inj (eq_of_beq k)) ne
    · exact eq_of_beq k
  have hu0 : A.units < cLine := Nat.lt_of_succ_lt hu
  have run : wpAny (model prog w) A (callSpecialIfBound? (.ref x) "__ne__" [.ref y]) (fun r s1 => ∃ b, r = some (.bool b) ∧ Q (.bool b) s1) E s := by
    simp only [callSpecialIfBound?, bindSpecialIfBound?]
    refine wpAny_holding (wpAny_bind (wpAny_bind (wpAny_bind (I.type.here ((PySem.W.looks_findIn X c.hn).here ?_)))))
    refine wpAny_bind (wpAny_askSetting (wpAny_ite ?_))
    have fin : wpAny (model prog w) A (call (.builtin "object.__ne__") ([.ref x] ++ [.ref y]) >>= fun v => pure (some v)) (fun r s1 => ∃ b, r = some (.bool b) ∧ Q (.bool b) s1) E s :=
      wpAny_bind (wpAny_mono (call_objNe (Q := fun v s1 => ∃ b, v = .bool b ∧ Q (.bool b) s1) X I c hu (wpAny_mono h (fun v s1 ⟨b, e, q⟩ => ⟨b, e, _, rfl, q⟩) fun _ _ e => e)) (fun v s1 ⟨b, e, q⟩ => wpAny_pure ⟨b, congrArg some e, q⟩) fun _ _ e => e)
    split
    · exact wpAny_bind (wpAny_of_eq (F.cmp_object.ne.bind _) (wpAny_pure (by exact fin)))
    · exact wpAny_tryCatch (wpAny_bind (wpAny_of_eq (F.cmp_object.ne.bind _) (wpAny_pure (by exact fin))))
  have one : wpAny (model prog w) A (tryCompare (.ref x) "__ne__" (.ref y)) (fun r s1 => ∃ b, r = some (.bool b) ∧ Q (.bool b) s1) E s := by
    unfold tryCompare
    refine wpAny_bind (wpAny_mono run (fun r s1 z => ?_) fun _ _ e => e)
    obtain ⟨b, rfl, q⟩ := z
    exact wpAny_pure ⟨b, rfl, q⟩
  unfold richCompare
  simp only [oneThing_ref]
  refine wpAny_holding (wpAny_bind (wpAny_cRoomFor hu0 ?_))
  rw [cmpInfo_NotEq]
  dsimp only
  refine wpAny_bind (I.type.here (wpAny_bind (wpAny_typeOf_ref hy ?_)))
  have nb : (Value.ref C != Value.ref C') = true := by
    rw [bne_iff_ne]
    exact fun z => ne (Value.ref.inj z).symm
  rw [cy, nb]
  simp only [if_true]
  refine wpAny_bind ((PySem.W.looks_subIn X hsub).here ?_)
  simp only [Bool.false_eq_true, if_false]
  refine wpAny_bind (wpAny_mono one (fun r s1 z => ?_) fun _ _ e => e)
  obtain ⟨b, rfl, q⟩ := z
  exact wpAny_pure q
end
section
variable {X : Cx} {CX : CXT} {n : Nat} {C f : Addr} {fd : FuncData} {ps : List Str} {R : Addr → V → Bool → Hp → Prop} {E : XK}
/-- x != y of two instances, the second of no class below the first one's -/
def rNeX (K : PySem.W.Frag) (C : Addr) (R : Addr → V → Bool → Hp → Prop) : R2 := fun x y H Q => ∃ b, DInsB K C R x y b H ∧ ∀ H', Ext H H' → Q (.bl (!b)) H'
theorem op_neX (G : FnOk X.prog X.w X.K X.mg X.base CX n f fd ps (spEqB R)) (hc : NeK X.K C f) (hb : Binds X.K fd ps []) (hx : Passes CX X E) (hr : Room (n + 1) X.A) : OpR X (compareOp .NotEq) (rNeX X.K C R) := by
  intro pins s σ H x y v u Q I rx ry hq
  obtain ⟨b, ⟨a, c, C', dx, dy, fs, gs, rfl, rfl, ha, hc1, nf, hR⟩, q⟩ := hq
  cases rx
  cases ry
  obtain ⟨mA, J, _⟩ := ins_get I.hok ha
  obtain ⟨mC, J1, _⟩ := ins_get I.hok hc1
  obtain ⟨od, J, _⟩ := J.look
  obtain ⟨od1, J1, _⟩ := J1.look
  have r1 : Room n X.A.in1 := hr.in1
  have go := own_runB (B := X.A.in1) (y := .ref c) (v := .ref c) G hb hx ⟨r1, rfl⟩ I rfl hR
  show wpAny (model X.prog X.w) X.A (richCompare .NotEq (.ref a) (.ref c)) (EP X pins σ Q) X.xe s
  refine rc_neX I.kIn J hc J1.at_ J1.cls nf (hu_of hr) (wpAny_mono go (fun r s1 z => ?_) fun _ _ e => e)
  cases r with
  | notImplemented => exact False.elim z
  | bool b' =>
    obtain ⟨e, H1, I1, ex⟩ := z
    cases e
    exact ⟨_, rfl, .bl _, H1, I1, rfl, q H1 ex⟩
  | _ => cases z.1
/-- x == y, two lists equal pair by pair -/
def DAll (D : EqvB) : Eqv := fun x y H => ∀ H', Ext H H' → D x y true H'
theorem mon_all (D : EqvB) : Mon (DAll D) := fun _ _ _ _ e d H' e' => d H' (e.trans e')
theorem eqG_all {D : EqvB} (h : EqB X n D) : EqG X n (DAll D) := fun B pins s σ H x y u v sb I rx ry d => h B pins s σ H x y true u v sb I rx ry (d H Ext.rfl')
/-- x != y, two lists of just the same objects -/
def rNeSame (K : PySem.W.Frag) : R2 := fun x y H Q => ∃ a c xs, x = .ref a ∧ y = .ref c ∧ H a = some (.lst xs) ∧ H c = some (.lst xs) ∧ (∀ z ∈ xs, ∃ p, z = V.ref p) ∧ Q (.bl false) H
theorem refs_same : ∀ {xs : List V} {us vs : List Value}, (∀ z ∈ xs, ∃ p, z = V.ref p) → Vals xs us → Vals xs vs → us = vs
  | [], _, _, _, .nil, .nil => rfl
  | x :: xs, _, _, h, .cons r1 k1, .cons r2 k2 => by
    obtain ⟨p, rfl⟩ := h x (List.mem_cons_self ..)
    cases r1
    cases r2
    rw [refs_same (fun z hz => h z (List.mem_cons_of_mem _ hz)) k1 k2]
theorem op_neSame (hu : X.A.units < cLine) : OpR X (compareOp .NotEq) (rNeSame X.K) := by
  intro pins s σ H x y v u Q I rx ry hq
  obtain ⟨a, c, xs, rfl, rfl, ha, hc, hr, q⟩ := hq
  cases rx
  cases ry
  obtain ⟨z, its, k, r, e⟩ := I.hok a _ ha
  obtain ⟨z2, its2, k2, r2, e2⟩ := I.hok c _ hc
  obtain rfl := refs_same hr r r2
  show wpAny (model X.prog X.w) X.A (richCompare .NotEq (.ref a) (.ref c)) (EP X pins σ Q) X.xe s
  refine wpAny_richCompare_same_room (op := .NotEq) ⟨_, e, rfl⟩ ⟨_, e2, rfl⟩ F.slot_list_ne (GQ.call_here F.slot_list_ne ⟨_, e, rfl⟩ F.entry_list_ne (F.args_list_ne_2 _ _) ?_) hu
  refine SeqAt.list_neAt a c its.toArray its.toArray k k2 none none #[] #[] rfl (fun _ => true) X.prog X.w X.A (wants (fun v s' => v ≠ .notImplemented ∧ EP X pins σ Q v s') X.xe) s ⟨e, e2, fun j h1 h2 => SeqAt.EqAt.same _, ?_⟩
  have al : (List.range its.toArray.size).all (fun _ => true) = true := by simp
  rw [al]
  exact ⟨(fun z => nomatch z), .bl false, H, I, rfl, q⟩
end
section
variable {prog : Program} {w : World} {A : Around} {E : Value → Shared → Prop} {s : Shared}
/-- a tuple's items, taken over into a list of their own -/
theorem collect_tup {l : Addr} {o : Obj} {n : Nat} {vs : List Value} {Q : List Value → Shared → Prop} (ho : s.heap.get? l = some o) (hc : o.cls = .type "tuple") (hd : o.data = .seq vs.toArray n)
    (h : Q vs { s with heap := (s.heap.push (seqObj "list" #[] 0)).update s.heap.objs.size (Obj.mapSeq (· ++ vs.toArray)) }) (hsz : vs.length ≤ sizeLine) : wpAny (model prog w) A (collect (.ref l)) Q E s := by
  have new : (s.heap.push (seqObj "list" #[] 0)).get? s.heap.objs.size = some (seqObj "list" #[] 0) := Heap.get?_push_size _ rfl
  have old : (s.heap.push (seqObj "list" #[] 0)).get? l = some o := Heap.get?_push_of_some _ ho
  unfold collect
  refine wpAny_bind (wpAny_runValue (codeAny_builtin entry_proto_collect' (show wpAny _ _ (do again (.builtin "list.__iadd__" ⟨[← newList [], .ref l], []⟩)) _ _ s from wpAny_bind (wpAny_newList (wpAny_pure ⟨Code.quiet_builtin _ (by decide +kernel), codeAny_builtin entry_list_iadd' ?_⟩)))))
  show wpAny _ _ (Builtin.List.listExtendWith (.ref s.heap.objs.size) (.ref l) (.ref s.heap.objs.size)) _ _ { s with heap := s.heap.push (seqObj "list" #[] 0) }
  unfold Builtin.List.listExtendWith
  have tt : (Value.type "tuple" == Value.type "tuple") = true := rfl
  refine wpAny_bind (wpAny_typeOf (T := "tuple") ⟨o, old, hc⟩ ?_)
  rw [if_pos (by rw [tt]; simp)]
  refine wpAny_bind (listItems_at old hd (wpAny_bind (listItems_at (xs := #[]) (n := 0) new rfl ?_)))
  rw [if_neg (by simp)]
  refine wpAny_bind (listUpdate_at (xs := #[]) (n := 0) new rfl (wpAny_pure ?_) (Nat.zero_le _) (by show (#[] ++ vs.toArray).size ≤ sizeLine + 1; simp only [Array.size_append, List.size_toArray, List.length_nil]; omega))
  refine (show wpAny (model prog w) A (load s.heap.objs.size >>= fun o => match o.data with | .seq xs _ => pure xs.toList | _ => unsupported "internal:collect") Q E _ from wpAny_bind (wpAny_load (get?_update_seq new _) ?_))
  show wpAny _ _ (pure ((#[] : Array Value) ++ vs.toArray).toList) Q E _
  rw [show ((#[] : Array Value) ++ vs.toArray).toList = vs by simp]
  exact wpAny_pure h
theorem sorted_tup {l : Addr} {o : Obj} {n : Nat} {vs : List Value} {ns : List Int} {Q : Value → Shared → Prop} (ho : s.heap.get? l = some o) (hc : o.cls = .type "tuple") (hd : o.data = .seq vs.toArray n) (hI : IntsAre vs ns) (h64 : vs.length < 64)
    (h : ∀ (out : Array Value) (ns' : List Int), IntsAre out.toList ns' → ns'.Perm ns → ns'.Pairwise (· ≤ ·) → Q (.ref (s.heap.objs.size + 1)) { s with heap := sortedAll s.heap vs out }) :
    wpAny (model prog w) A (call (.builtin "sorted") [.ref l]) Q E s := by
  refine Calls.call_function_entry kind_sorted plain_sorted entry_sorted (args_sorted1 _) ?_
  unfold Builtin.«sorted»
  refine wpAny_bind (m := checkCount "sorted" 1 1 _) (wpAny_pure (wpAny_bind (collect_tup ho hc hd (wpAny_bind (wpAny_newList ?_)) (small64 h64))))
  have sz : ((s.heap.push (seqObj "list" #[] 0)).update s.heap.objs.size (Obj.mapSeq (· ++ vs.toArray))).objs.size = s.heap.objs.size + 1 := by rw [Heap.size_update, size_push']
  have at2 : (((s.heap.push (seqObj "list" #[] 0)).update s.heap.objs.size (Obj.mapSeq (· ++ vs.toArray))).push (seqObj "list" vs.toArray 0)).get? (s.heap.objs.size + 1) = some (seqObj "list" vs.toArray 0) := sz ▸ Heap.get?_push_size _ rfl
  show wpAny _ _ _ _ _ { s with heap := ((s.heap.push (seqObj "list" #[] 0)).update s.heap.objs.size (Obj.mapSeq (· ++ vs.toArray))).push (seqObj "list" vs.toArray 0) }
  rw [sz]
  exact wpAny_bind (wpAny_holding (wpAny_call_entry slot_list_sort ⟨_, at2, rfl⟩ entry_list_sort (list_sort_tree at2 hI h64 fun out ns' a1 a2 a3 => ⟨_, rfl, wpAny_pure ⟨_, rfl, h out ns' a1 a2 a3⟩⟩) (args_list_sort _)))
end
section
variable {X : Cx}
/-- sorted(t), t a tuple or a list of ints -/
def rSrt (K : PySem.W.Frag) : List V → Hp → VK → Prop := fun vs H Q => ∃ (a : Addr) (ns : List Int), vs = [V.ref a] ∧ (SqL K H a (ns.map V.int) ∨ SqT K H a (ns.map V.int)) ∧ ns.length < 64 ∧
  ∀ (ns' : List Int) (p : Addr), ns'.Perm ns → ns'.Pairwise (· ≤ ·) → H p = none → Q (.ref p) (upd H p (.lst (ns'.map V.int)))
theorem cr_srt : CallR X (.builtin "sorted") (rSrt X.K) := by
  intro pins s σ H vs us Q I r h
  obtain ⟨a, ns, rfl, hs, h64, q⟩ := h
  rcases hs with hs | hs
  · exact cr_sorted pins s σ H _ us Q I r ⟨a, ns, rfl, hs, h64, q⟩
  obtain ⟨its, rv, ⟨o, ho, hc, n, hd⟩, _⟩ := I.tuple hs
  rw [Vals.ref1 r]
  have hi := rv.ints
  refine sorted_tup ho hc hd hi (by rw [hi.length]; exact h64) fun out ns' h1 h2 h3 => ?_
  obtain ⟨ep, he'⟩ := PyProof.Rows.sortedAll_at s.heap its out
  have hlen : (ns'.map V.int).length ≤ sizeLine := by rw [List.length_map, h2.length_eq]; exact small64 h64
  exact ⟨.ref _, upd H (s.heap.objs.size + 1) (.lst (ns'.map V.int)), I.laid (t' := s.toks) (fun _ _ => PyProof.Rows.sortedAll_old) (Nat.le_succ _) ⟨hlen, out.toList, ep, vals_of_ints h1, he'⟩, rfl, q ns' _ h2 h3 (I.hok.fresh (Nat.le_succ _))⟩
end
end KpR

namespace KpR
open PySem PySem.Spec PyProof.Rows L2
theorem lc_enumT {K : PySem.W.Frag} {a : Addr} {xs : List V} {g : TG} {tt : TT} {te : TE} {vs : List Nat} {σ : L2.St} {H1 : Hp} {D : Addr} {Qd : Hp → Prop} (Pv : Nat → Hp → Prop) (h0 : Pv 0 (upd H1 D (.lst []))) (hl : ∀ i H, i ≤ xs.length → Pv i H → SqT K H a xs)
    (hs : ∀ i x T H, xs[i]? = some x → Pv i H → H T = none → g (.ref T) (wipe σ vs) (upd H T (.tup [.int (i : Nat), x])) fun σ2 H2 => wipe σ2 vs = wipe σ vs ∧ tt σ2 H2 fun b H3 =>
      if b = true then te σ2 H3 fun y H4 => ∃ acc, H4 D = some (.lst acc) ∧ acc.length < sizeLine ∧ Pv (i + 1) (upd H4 D (.lst (acc ++ [y]))) else Pv (i + 1) H3) (hd : ∀ H, Pv xs.length H → Qd H) :
    ∃ W : Nat → Nat → Hp → Prop, (∃ m, W 0 m (upd H1 D (.lst []))) ∧ ∀ i m H, W i m H →
      ((IteT K a).stop i H ∧ Qd H) ∨ ((IteT K a).go i H ∧ ∃ Nx : Hp → Prop, (∀ H', Nx H' → ∃ m', m' < m ∧ W (i + 1) m' H') ∧ ∀ x H', (IteT K a).yld i H x H' → g x (wipe σ vs) H' fun σ2 H2 => wipe σ2 vs = wipe σ vs ∧ tt σ2 H2 fun b H3 =>
        if b = true then te σ2 H3 fun y H4 => ∃ acc, H4 D = some (.lst acc) ∧ acc.length < sizeLine ∧ Nx (upd H4 D (.lst (acc ++ [y]))) else Nx H3) := by
  refine ⟨fun i m H => m = xs.length - i ∧ i ≤ xs.length ∧ Pv i H, ⟨xs.length, by simp, Nat.zero_le _, h0⟩, ?_⟩
  rintro i m H ⟨rfl, hi, p⟩
  have q := hl i H hi p
  by_cases hlt : i < xs.length
  · refine .inr ⟨⟨xs, xs[i], q, by simp [hlt]⟩, Pv (i + 1), fun H' p' => ⟨xs.length - (i + 1), by omega, rfl, hlt, p'⟩, ?_⟩
    rintro x H' ⟨T, y, rfl, hT, rfl, hy⟩
    exact hs i y T H (hy xs q) p hT
  · have e : i = xs.length := by omega
    subst e
    exact .inl ⟨⟨xs, q, rfl⟩, hd H p⟩
theorem lc_enumL {K : PySem.W.Frag} {a : Addr} {xs : List V} {g : TG} {tt : TT} {te : TE} {vs : List Nat} {σ : L2.St} {H1 : Hp} {D : Addr} {Qd : Hp → Prop} (Pv : Nat → Hp → Prop) (h0 : Pv 0 (upd H1 D (.lst []))) (hl : ∀ i H, i ≤ xs.length → Pv i H → SqL K H a xs)
    (hs : ∀ i x T H, xs[i]? = some x → Pv i H → H T = none → g (.ref T) (wipe σ vs) (upd H T (.tup [.int (i : Nat), x])) fun σ2 H2 => wipe σ2 vs = wipe σ vs ∧ tt σ2 H2 fun b H3 =>
      if b = true then te σ2 H3 fun y H4 => ∃ acc, H4 D = some (.lst acc) ∧ acc.length < sizeLine ∧ Pv (i + 1) (upd H4 D (.lst (acc ++ [y]))) else Pv (i + 1) H3) (hd : ∀ H, Pv xs.length H → Qd H) :
    ∃ W : Nat → Nat → Hp → Prop, (∃ m, W 0 m (upd H1 D (.lst []))) ∧ ∀ i m H, W i m H →
      ((Ite K a).stop i H ∧ Qd H) ∨ ((Ite K a).go i H ∧ ∃ Nx : Hp → Prop, (∀ H', Nx H' → ∃ m', m' < m ∧ W (i + 1) m' H') ∧ ∀ x H', (Ite K a).yld i H x H' → g x (wipe σ vs) H' fun σ2 H2 => wipe σ2 vs = wipe σ vs ∧ tt σ2 H2 fun b H3 =>
        if b = true then te σ2 H3 fun y H4 => ∃ acc, H4 D = some (.lst acc) ∧ acc.length < sizeLine ∧ Nx (upd H4 D (.lst (acc ++ [y]))) else Nx H3) := by
  refine ⟨fun i m H => m = xs.length - i ∧ i ≤ xs.length ∧ Pv i H, ⟨xs.length, by simp, Nat.zero_le _, h0⟩, ?_⟩
  rintro i m H ⟨rfl, hi, p⟩
  have q := hl i H hi p
  by_cases hlt : i < xs.length
  · refine .inr ⟨⟨xs, xs[i], q, by simp [hlt]⟩, Pv (i + 1), fun H' p' => ⟨xs.length - (i + 1), by omega, rfl, hlt, p'⟩, ?_⟩
    rintro x H' ⟨T, y, rfl, hT, rfl, hy⟩
    exact hs i y T H (hy xs q) p hT
  · have e : i = xs.length := by omega
    subst e
    exact .inl ⟨⟨xs, q, Nat.le_refl _⟩, hd H p⟩
theorem A2at {α : Type} {R : V → α → Prop} : ∀ {vs : List V} {ds : List α} {i : Nat} {d : α}, A2 R vs ds → ds[i]? = some d → ∃ v, atI vs (i : Int) = some v ∧ vs[i]? = some v ∧ R v d := by
  intro vs ds i d h e
  have lt : i < ds.length := (List.getElem?_eq_some_iff.mp e).1
  have lt2 : i < vs.length := by rw [h.len]; exact lt
  obtain ⟨d', e', r⟩ := h.get (List.getElem?_eq_getElem lt2)
  rw [e] at e'
  cases e'
  exact ⟨_, atI_nat (List.getElem?_eq_getElem lt2), List.getElem?_eq_getElem lt2, r⟩
theorem A2set {α : Type} {R : V → α → Prop} : ∀ {vs : List V} {ds : List α} {i : Nat} {v : V} {d : α}, A2 R vs ds → R v d → A2 R (vs.set i v) (ds.set i d)
  | [], [], _, _, _, _, _ => trivial
  | _ :: _, _ :: _, 0, _, _, h, r => ⟨r, h.2⟩
  | _ :: _, _ :: _, i + 1, _, _, h, r => ⟨h.1, A2set h.2 r⟩
/-- t + u of two tuples of the heap: one that holds both, perhaps one of them itself -/
def rCatS : R2 := fun x y H Q => ∃ (a b : Addr) (xs ys : List V), x = .ref a ∧ y = .ref b ∧ H a = some (.tup xs) ∧ H b = some (.tup ys) ∧ xs.length + ys.length ≤ sizeLine ∧
  ∀ (p : Addr) (H' : Hp), Same H H' → H' p = some (.tup (xs ++ ys)) → Q (.ref p) H'
theorem op_catS {X : Cx} : OpR X (binaryOp .Add) rCatS := by
  intro pins s σ H x y v u Q I rx ry h
  obtain ⟨a, b, xs, ys, rfl, rfl, ha, hb, hz, q⟩ := h
  refine op_catA pins s σ H _ _ v u Q I rx ry ⟨a, b, xs, ys, rfl, rfl, SqT.of ha, SqT.of hb, hz, fun e => ?_, fun _ e => ?_, fun _ _ p hp => ?_⟩
  · subst e
    exact q b H (Same.refl _) hb
  · subst e
    exact q a H (Same.refl _) (by rw [List.append_nil]; exact ha)
  · exact q p _ (same_new hp) upd_same
/-- xs != [] and xs == [], whatever the list holds -/
def rNeNil : R2 := fun x y H Q => ∃ (a c : Addr) (xs : List V), x = .ref a ∧ y = .ref c ∧ H a = some (.lst xs) ∧ H c = some (.lst []) ∧ Q (.bl (!xs.isEmpty)) H
def rEqNil : R2 := fun x y H Q => ∃ (a c : Addr) (xs : List V), x = .ref a ∧ y = .ref c ∧ H a = some (.lst xs) ∧ H c = some (.lst []) ∧ Q (.bl xs.isEmpty) H
theorem op_neNil {X : Cx} (hu : X.A.units < cLine) : OpR X (compareOp .NotEq) rNeNil := by
  intro pins s σ H x y v u Q I rx ry hq
  obtain ⟨a, c, xs, rfl, rfl, ha, hc, q⟩ := hq
  cases rx
  cases ry
  obtain ⟨z, its, k, r, e⟩ := I.hok a _ ha
  obtain ⟨z2, its2, k2, r2, e2⟩ := I.hok c _ hc
  cases r2
  have l1 : s.heap.IsList a its.toArray := ⟨_, e, rfl, _, rfl⟩
  have l2 : s.heap.IsList c ([] : List Value).toArray := ⟨_, e2, rfl, _, rfl⟩
  cases r with
  | nil => exact PySem.SeqAt.RcNeAt.lists l1 l2 rfl hu (e := fun _ => true) (fun j h1 _ => absurd h1 (Nat.not_lt_zero _)) X.prog X.w _ _ ⟨.bl false, H, I, rfl, q⟩
  | cons r0 rr => exact PySem.SeqAt.RcNeAt.lists_lengths l1 l2 rfl hu X.prog X.w _ _ ⟨.bl true, H, I, rfl, q⟩
theorem op_eqNil {X : Cx} (hu : X.A.units < cLine) : OpR X (compareOp .Eq) rEqNil := by
  intro pins s σ H x y v u Q I rx ry hq
  obtain ⟨a, c, xs, rfl, rfl, ha, hc, q⟩ := hq
  cases rx
  cases ry
  obtain ⟨z, its, k, r, e⟩ := I.hok a _ ha
  obtain ⟨z2, its2, k2, r2, e2⟩ := I.hok c _ hc
  cases r2
  have l1 : s.heap.IsList a its.toArray := ⟨_, e, rfl, _, rfl⟩
  have l2 : s.heap.IsList c ([] : List Value).toArray := ⟨_, e2, rfl, _, rfl⟩
  cases r with
  | nil => exact PySem.SeqAt.RcAt.lists l1 l2 rfl hu (e := fun _ => true) (fun j h1 _ => absurd h1 (Nat.not_lt_zero _)) X.prog X.w _ _ ⟨.bl true, H, I, rfl, q⟩
  | cons r0 rr => exact PySem.SeqAt.RcAt.lists_lengths l1 l2 rfl hu X.prog X.w _ _ ⟨.bl false, H, I, rfl, q⟩
/-- for a, b in d.items(): each entry in a new pair -/
theorem for_items {d : Addr} {o : Obj} {kvs : List (Key × V)} {g : TG} {tb : TS} {D : Ends} {σ : L2.St} {H : Hp} (Pv : Nat → L2.St → Hp → Prop) (h0 : Pv 0 σ H) (hl : ∀ i σ H, Pv i σ H → H d = some (.frz o (.dK kvs)))
    (hs : ∀ i k v T σ H, kvs[i]? = some (k, v) → Pv i σ H → H T = none → g (.ref T) σ (upd H T (.tup [kV k, v])) fun σ2 H2 => tb { D with nx := Pv (i + 1), ct := Pv (i + 1), bk := D.nx } σ2 H2) (hd : ∀ σ H, Pv kvs.length σ H → D.nx σ H) :
    ∃ W : Nat → Nat → L2.St → Hp → Prop, (∃ m, W 0 m σ H) ∧ ∀ i m σ H, W i m σ H →
      ((Iti d o kvs).stop i H ∧ D.nx σ H) ∨ ((Iti d o kvs).go i H ∧ ∃ N : L2.St → Hp → Prop, (∀ σ' H', N σ' H' → ∃ m', m' < m ∧ W (i + 1) m' σ' H') ∧ ∀ x H', (Iti d o kvs).yld i H x H' → g x σ H' fun σ2 H2 => tb { D with nx := N, ct := N, bk := D.nx } σ2 H2) := by
  refine ⟨fun i m σ H => m = kvs.length - i ∧ i ≤ kvs.length ∧ Pv i σ H, ⟨kvs.length, by simp, Nat.zero_le _, h0⟩, ?_⟩
  rintro i m σ1 H1 ⟨rfl, hi, p⟩
  have q := hl _ _ _ p
  rcases Nat.lt_or_eq_of_le hi with lt | e
  · refine .inr ⟨⟨q, lt⟩, Pv (i + 1), fun σ2 H2 q => ⟨kvs.length - (i + 1), by omega, rfl, lt, q⟩, ?_⟩
    rintro x H2 ⟨T, k, v, hk, rfl, hT, rfl⟩
    exact hs i k v T σ1 H1 hk p hT
  · subst e
    exact .inl ⟨⟨q, Nat.le_refl _⟩, hd _ _ p⟩
end KpR

/-! Kp: sum of a tuple of ints. -/
namespace KpR
open PySem PySem.Spec PyProof.Rows L2
section
variable {prog : Program} {w : World} {A : Around} {E : Value → Shared → Prop} {s : Shared} {l : Addr} {xs : Array (Int × Tok)}
theorem sum_tupG {Q : Value → Shared → Prop} (hh : A.handled = none) (hl : s.heap.IsTuple l (intItems xs))
    (h : ∀ h' tk t', (∀ b o, s.heap.get? b = some o → h'.get? b = some o) → Q (.int (preSum (numAt xs) xs.size) t') { s with heap := h', toks := tk }) :
    wpAny (model prog w) A (call (.builtin "sum") [.ref l]) Q E s := by
  have lt : l < s.heap.objs.size := by
    obtain ⟨o, e, _⟩ := hl
    exact Heap.lt_size e
  refine call_sum_walkG (wpAny_pyIter_tuple hl ?_)
  refine ⟨_, _, [s.heap.objs.size], _, _, _, numAt xs, rfl, Walks.tuple (A := A.in1) hh _ l (Nat.ne_of_lt lt) (intItems xs), ⟨⟨_, Heap.get?_push_size _ rfl, rfl, rfl⟩, hl.push _⟩, fun b hb => ?_, (fun _ _ => intItems_at), fun h' tk t' hk => ?_⟩
  · show b < (s.heap.push _).objs.size
    rw [Heap.size_push]
    rcases List.mem_cons.mp hb with rfl | hb
    · exact Nat.lt_succ_self _
    · rcases List.mem_cons.mp hb with rfl | hb
      · exact Nat.lt_succ_of_lt lt
      · cases hb
  · have := h h' tk t' fun b o e => by
      refine hk b o (fun hm => ?_) (Heap.get?_push_of_some _ e)
      rcases List.mem_cons.mp hm with e1 | hm
      · exact absurd (e1 ▸ Heap.lt_size e) (Nat.lt_irrefl _)
      · cases hm
    simpa [intItems] using this
end
/-- sum(t) of a tuple of ints -/
def rSumT (K : PySem.W.Frag) : List V → Hp → VK → Prop := fun vs H Q => ∃ (a : Addr) (ns : List Int), vs = [V.ref a] ∧ SqT K H a (ns.map V.int) ∧ Q (.int ns.sum) H
theorem cr_sumT {X : Cx} (hc : X.calm = true) : CallR X (.builtin "sum") (rSumT X.K) := by
  intro pins s σ H vs us Q I r h
  obtain ⟨a, ns, rfl, hs, q⟩ := h
  obtain ⟨its, rv, hl, _⟩ := I.tuple hs
  rw [Vals.ref1 r]
  have hi := rv.ints
  obtain ⟨xs, e⟩ := hi.allInts.items
  have hn : numsOf (intItems xs).toList = ns := by rw [← e]; exact hi.numsOf
  rw [nums_intItems] at hn
  rw [e] at hl
  refine sum_tupG (I.ok.hd hc) (let ⟨o, h1, h2, n, h3⟩ := hl; ⟨o, h1, h2, n, h3⟩) fun h' tk t' hk => ⟨.int _, H, I.kept hk, ⟨_, rfl⟩, ?_⟩
  rw [preSum_eq, List.take_of_length_le (by simp), hn]
  exact q
end KpR

/-! Kp: min of a tuple of ints. -/
namespace KpR
open PySem PySem.Spec PyProof.Rows L2
section
variable {prog : Program} {w : World} {A : Around} {E : Value → Shared → Prop} {s : Shared} {l : Addr} {xs : Array (Int × Tok)}
theorem min_tupG {Q : Value → Shared → Prop} (hh : A.handled = none) (hl : s.heap.IsTuple l (intItems xs)) (hne : 0 < xs.size)
    (h : ∀ v h' tk, (intItems xs)[argBest (fun i j => decide (numAt xs i < numAt xs j)) (xs.size - 1)]? = some v → (∀ b o, s.heap.get? b = some o → h'.get? b = some o) → Q v { s with heap := h', toks := tk }) :
    wpAny (model prog w) A (call (.builtin "min") [.ref l]) Q E s := by
  have lt : l < s.heap.objs.size := by
    obtain ⟨o, e, _⟩ := hl
    exact Heap.lt_size e
  refine call_min_walk (wpAny_pyIter_tuple hl ?_)
  refine ⟨_, _, [s.heap.objs.size], _, _, _, _, rfl, Walks.tuple (A := A.in1) hh _ l (Nat.ne_of_lt lt) (intItems xs), ⟨⟨_, Heap.get?_push_size _ rfl, rfl, rfl⟩, hl.push _⟩, fun b hb => ?_, by simpa [intItems] using hne, CmpOf.ints_lt (numAt xs) (fun _ _ => intItems_at), fun v h' tk hP hk => ?_⟩
  · show b < (s.heap.push _).objs.size
    rw [Heap.size_push]
    rcases List.mem_cons.mp hb with rfl | hb
    · exact Nat.lt_succ_self _
    · rcases List.mem_cons.mp hb with rfl | hb
      · exact Nat.lt_succ_of_lt lt
      · cases hb
  · refine h v h' tk (by simpa [intItems] using hP) fun b o e => ?_
    refine hk b o (fun hm => ?_) (Heap.get?_push_of_some _ e)
    rcases List.mem_cons.mp hm with e1 | hm
    · exact absurd (e1 ▸ Heap.lt_size e) (Nat.lt_irrefl _)
    · cases hm
end
/-- min(t) of a tuple of ints -/
def rMinT (K : PySem.W.Frag) : List V → Hp → VK → Prop := fun vs H Q => ∃ (a : Addr) (ns : List Int), vs = [V.ref a] ∧ SqT K H a (ns.map V.int) ∧ 0 < ns.length ∧ ∀ m, m ∈ ns → (∀ y, y ∈ ns → m ≤ y) → Q (.int m) H
theorem cr_minT {X : Cx} (hc : X.calm = true) : CallR X (.builtin "min") (rMinT X.K) := by
  intro pins s σ H vs us Q I r h
  obtain ⟨a, ns, rfl, hs, hne, q⟩ := h
  obtain ⟨its, rv, hl, _⟩ := I.tuple hs
  rw [Vals.ref1 r]
  have hi := rv.ints
  obtain ⟨xs, e⟩ := hi.allInts.items
  obtain rfl : xs.toList.map (·.1) = ns := (nums_intItems xs).symm.trans ((congrArg (fun z : Array Value => numsOf z.toList) e).symm.trans hi.numsOf)
  rw [e] at hl
  have hsz : 0 < xs.size := by simpa using hne
  refine min_tupG (I.ok.hd hc) (let ⟨o, h1, h2, n, h3⟩ := hl; ⟨o, h1, h2, n, h3⟩) hsz fun v h' tk hv hk => ?_
  obtain ⟨t, rfl⟩ := intItems_at hv
  obtain ⟨h1, h2⟩ := argBest_lt (numAt xs) (xs.size - 1)
  refine ⟨.int _, H, I.kept hk, ⟨_, rfl⟩, q _ ?_ fun a ha => ?_⟩
  · exact (numAt_eq xs _).symm ▸ PySem.getD_mem (by simp only [List.length_map, Array.length_toList]; omega)
  · obtain ⟨j, jl, rfl⟩ := mem_getD ha
    simp only [List.length_map, Array.length_toList] at jl
    exact (numAt_eq xs j) ▸ h2 j (by omega)
end KpR

/-! Kp: == and != of lists and tuples of ints, whatever the answer; dicts with int keys. -/
namespace KpR
open PySem PySem.Spec PyProof.Rows L2
def pdInts (l : List Int) : List PyData := l.map PyData.int
section
variable {K : PySem.W.Frag} {H : Hp}
theorem dpInts : ∀ l : List Int, DpAll K H (l.map V.int) (pdInts l)
  | [] => .nil
  | i :: l => .cons (.int i) (dpInts l)
theorem flatT (l : List Int) : Flat 1 (.tuple (pdInts l)) := Flat.tup fun _ _ => Flat.int
theorem flatL (l : List Int) : Flat 1 (.list (pdInts l)) := Flat.list fun _ _ => Flat.int
theorem eqvInts (l m : List Int) : PyData.eqvAll (pdInts l) (pdInts m) = decide (l = m) := eqv_map fun _ _ => eqv_int
theorem eqTI {a b : Addr} {l m : List Int} {Q : VK} (h1 : SqT K H a (l.map V.int)) (h2 : SqT K H b (m.map V.int)) (q : Q (.bl (decide (l = m))) H) : rEqD K (.ref a) (.ref b) H Q := by
  refine eqD (.tup h1 (dpInts l)) (.tup h2 (dpInts m)) ((flatT l).mono (by decide)) ((flatT m).mono (by decide)) ?_
  simp only [PyData.eqv, eqvInts]
  exact q
theorem neTI {a b : Addr} {l m : List Int} {Q : VK} (h1 : SqT K H a (l.map V.int)) (h2 : SqT K H b (m.map V.int)) (q : Q (.bl (!decide (l = m))) H) : rNeD K (.ref a) (.ref b) H Q := by
  refine neD (.tup h1 (dpInts l)) (.tup h2 (dpInts m)) ((flatT l).mono (by decide)) ((flatT m).mono (by decide)) ?_
  simp only [PyData.eqv, eqvInts]
  exact q
theorem eqLI {a b : Addr} {l m : List Int} {Q : VK} (h1 : SqL K H a (l.map V.int)) (h2 : SqL K H b (m.map V.int)) (q : Q (.bl (decide (l = m))) H) : rEqD K (.ref a) (.ref b) H Q := by
  refine eqD (.lst h1 (dpInts l)) (.lst h2 (dpInts m)) ((flatL l).mono (by decide)) ((flatL m).mono (by decide)) ?_
  simp only [PyData.eqv, eqvInts]
  exact q
theorem neLI {a b : Addr} {l m : List Int} {Q : VK} (h1 : SqL K H a (l.map V.int)) (h2 : SqL K H b (m.map V.int)) (q : Q (.bl (!decide (l = m))) H) : rNeD K (.ref a) (.ref b) H Q := by
  refine neD (.lst h1 (dpInts l)) (.lst h2 (dpInts m)) ((flatL l).mono (by decide)) ((flatL m).mono (by decide)) ?_
  simp only [PyData.eqv, eqvInts]
  exact q
end
theorem cut_takeT {xs : List V} {n : Nat} : cutV xs none (some (n : Int)) = xs.take n := by
  unfold cutV
  rw [HT.sIx_nat, HT.sIx_none, List.drop_zero, Nat.sub_zero]
  by_cases h : n ≤ xs.length
  · rw [Nat.min_eq_left h]
  · rw [Nat.min_eq_right (by omega), List.take_length, List.take_of_length_le (by omega)]
/-! dicts -/
theorem putK_new {kvs : List (Key × V)} {k : Key} {v : V} (h : ∀ p ∈ kvs, p.1 ≠ k) : putK kvs k v = kvs ++ [(k, v)] := by
  unfold putK
  rw [if_neg]
  intro z
  obtain ⟨p, hp, e⟩ := List.any_eq_true.mp z
  exact h p hp (of_decide_eq_true e)
theorem putK_last {kvs : List (Key × V)} {k : Key} {u v : V} (h : ∀ p ∈ kvs, p.1 ≠ k) : putK (kvs ++ [(k, u)]) k v = kvs ++ [(k, v)] := by
  unfold putK
  rw [if_pos (by simp), List.map_append]
  congr 1
  · conv => rhs; rw [← List.map_id kvs]
    exact List.map_congr_left fun p hp => by rw [if_neg (h p hp)]; rfl
  · simp
/-- sameness but for two things -/
def Fr2 (w q : Addr) (H H' : Hp) : Prop := ∀ b o, b ≠ w → b ≠ q → H b = some o → H' b = some o
end KpR







namespace Kp
open PySem PySem.Spec PyProof.Rows L2 KpR
def topS (i : Nat) : Stmt := PySem.Challenge.pw_wholedrops_k22_trees_by_a_model.main.body.getD i (.Pass ⟨0, 0, 0, 0⟩)
abbrev scheckmuch : Stmt := topS 19
abbrev scheckjar : Stmt := topS 20
abbrev scheckdeed : Stmt := topS 21
abbrev sJarsInit : Stmt := inClass (topS 12) 0
abbrev sPourInit : Stmt := inClass (topS 14) 0
abbrev sPutInit : Stmt := inClass (topS 15) 0
abbrev sDrawInit : Stmt := inClass (topS 16) 0
abbrev sChangeInit : Stmt := inClass (topS 17) 0
abbrev sRowInit : Stmt := inClass (topS 18) 0
abbrev sWideInit : Stmt := inClass (topS 7) 0
abbrev sShareInit : Stmt := inClass (topS 23) 0
abbrev sfirstshares : Stmt := topS 24
abbrev sofnojar : Stmt := topS 25
abbrev stogether : Stmt := topS 26
abbrev satmost : Stmt := topS 27
abbrev satleast : Stmt := topS 28
abbrev stested : Stmt := topS 29
abbrev slimitof : Stmt := topS 30
abbrev sfirstway : Stmt := topS 31
abbrev ssecondway : Stmt := topS 32
abbrev sischoice : Stmt := topS 33
abbrev sonlyway : Stmt := topS 34
abbrev sSumInit : Stmt := inClass (topS 36) 0
abbrev sLeafInit : Stmt := inClass (topS 40) 0
abbrev sTestInit : Stmt := inClass (topS 41) 0
abbrev sGrowerInit : Stmt := inClass (topS 42) 0
abbrev sGrowerLeaf : Stmt := inClass (topS 42) 3
abbrev sGrowerGrown : Stmt := inClass (topS 42) 1
abbrev sGrowerParted : Stmt := inClass (topS 42) 2
abbrev streeof : Stmt := topS 43
abbrev sSumEq : Stmt := inClass (topS 36) 1
abbrev sLeafEq : Stmt := inClass (topS 40) 1
abbrev sTestEq : Stmt := inClass (topS 41) 1
abbrev sLstate : Stmt := topS 46
abbrev sLdigit : Stmt := topS 47
abbrev sLdeed : Stmt := topS 48
abbrev sLhouse : Stmt := topS 49
abbrev sLrow : Stmt := topS 50
abbrev sLstarts : Stmt := topS 51
abbrev sLcometo : Stmt := topS 52
abbrev sLtest : Stmt := topS 53
abbrev sLgone : Stmt := topS 54
abbrev sLgrown : Stmt := topS 55
abbrev sLtold : Stmt := topS 56
abbrev slaw : Stmt := topS 57
theorem sccheckmuch : FnScope ["what", "much"] ["what", "much"] (defScope scheckmuch) := ⟨rfl, rfl, rfl, by decide +kernel, rfl, by decide +kernel, by decide +kernel⟩
theorem sccheckjar : FnScope ["jars", "jar"] ["jars", "jar"] (defScope scheckjar) := ⟨rfl, rfl, rfl, by decide +kernel, rfl, by decide +kernel, by decide +kernel⟩
theorem sccheckdeed : FnScope ["jars", "deed"] ["jars", "deed"] (defScope scheckdeed) := ⟨rfl, rfl, rfl, by decide +kernel, rfl, by decide +kernel, by decide +kernel⟩
theorem scJarsInit : FnScope ["self", "sizes", "size"] ["self", "sizes"] (defScope sJarsInit) := ⟨rfl, rfl, rfl, by decide +kernel, rfl, by decide +kernel, by decide +kernel⟩
theorem scPourInit : FnScope ["self", "a", "b"] ["self", "a", "b"] (defScope sPourInit) := ⟨rfl, rfl, rfl, by decide +kernel, rfl, by decide +kernel, by decide +kernel⟩
theorem scPutInit : FnScope ["self", "a", "k"] ["self", "a", "k"] (defScope sPutInit) := ⟨rfl, rfl, rfl, by decide +kernel, rfl, by decide +kernel, by decide +kernel⟩
theorem scDrawInit : FnScope ["self", "a", "k"] ["self", "a", "k"] (defScope sDrawInit) := ⟨rfl, rfl, rfl, by decide +kernel, rfl, by decide +kernel, by decide +kernel⟩
theorem scChangeInit : FnScope ["self", "a", "b"] ["self", "a", "b"] (defScope sChangeInit) := ⟨rfl, rfl, rfl, by decide +kernel, rfl, by decide +kernel, by decide +kernel⟩
theorem scRowInit : FnScope ["self", "jars", "deeds", "deed"] ["self", "jars", "deeds"] (defScope sRowInit) := ⟨rfl, rfl, rfl, by decide +kernel, rfl, by decide +kernel, by decide +kernel⟩
theorem scWideInit : FnScope ["self", "count"] ["self", "count"] (defScope sWideInit) := ⟨rfl, rfl, rfl, by decide +kernel, rfl, by decide +kernel, by decide +kernel⟩
theorem scShareInit : FnScope ["self", "group", "more", "low", "high"] ["self", "group", "more", "low", "high"] (defScope sShareInit) := ⟨rfl, rfl, rfl, by decide +kernel, rfl, by decide +kernel, by decide +kernel⟩
theorem scfirstshares : FnScope ["jars", "jar", "size"] ["jars"] (defScope sfirstshares) := ⟨rfl, rfl, rfl, by decide +kernel, rfl, by decide +kernel, by decide +kernel⟩
theorem scofnojar : FnScope ["more"] ["more"] (defScope sofnojar) := ⟨rfl, rfl, rfl, by decide +kernel, rfl, by decide +kernel, by decide +kernel⟩
theorem sctogether : FnScope ["share", "other", "group"] ["share", "other"] (defScope stogether) := ⟨rfl, rfl, rfl, by decide +kernel, rfl, by decide +kernel, by decide +kernel⟩
theorem scatmost : FnScope ["share", "limit", "added"] ["share", "limit", "added"] (defScope satmost) := ⟨rfl, rfl, rfl, by decide +kernel, rfl, by decide +kernel, by decide +kernel⟩
theorem scatleast : FnScope ["share", "limit", "added"] ["share", "limit", "added"] (defScope satleast) := ⟨rfl, rfl, rfl, by decide +kernel, rfl, by decide +kernel, by decide +kernel⟩
theorem sctested : FnScope ["deed", "shares"] ["deed", "shares"] (defScope stested) := ⟨rfl, rfl, rfl, by decide +kernel, rfl, by decide +kernel, by decide +kernel⟩
theorem sclimitof : FnScope ["jars", "deed", "shares", "more"] ["jars", "deed", "shares"] (defScope slimitof) := ⟨rfl, rfl, rfl, by decide +kernel, rfl, by decide +kernel, by decide +kernel⟩
theorem scfirstway : FnScope ["jars", "deed", "shares", "share", "limit", "after"] ["jars", "deed", "shares"] (defScope sfirstway) := ⟨rfl, rfl, rfl, by decide +kernel, rfl, by decide +kernel, by decide +kernel⟩
theorem scsecondway : FnScope ["jars", "deed", "shares", "share", "limit", "after", "full"] ["jars", "deed", "shares"] (defScope ssecondway) := ⟨rfl, rfl, rfl, by decide +kernel, rfl, by decide +kernel, by decide +kernel⟩
theorem scischoice : FnScope ["jars", "deed", "shares", "share"] ["jars", "deed", "shares"] (defScope sischoice) := ⟨rfl, rfl, rfl, by decide +kernel, rfl, by decide +kernel, by decide +kernel⟩
theorem sconlyway : FnScope ["jars", "deed", "shares", "after"] ["jars", "deed", "shares"] (defScope sonlyway) := ⟨rfl, rfl, rfl, by decide +kernel, rfl, by decide +kernel, by decide +kernel⟩
theorem scSumInit : FnScope ["self", "group", "more"] ["self", "group", "more"] (defScope sSumInit) := ⟨rfl, rfl, rfl, by decide +kernel, rfl, by decide +kernel, by decide +kernel⟩
theorem scLeafInit : FnScope ["self", "sums"] ["self", "sums"] (defScope sLeafInit) := ⟨rfl, rfl, rfl, by decide +kernel, rfl, by decide +kernel, by decide +kernel⟩
theorem scTestInit : FnScope ["self", "deed", "group", "limit", "first", "second"] ["self", "deed", "group", "limit", "first", "second"] (defScope sTestInit) := ⟨rfl, rfl, rfl, by decide +kernel, rfl, by decide +kernel, by decide +kernel⟩
theorem scGrowerInit : FnScope ["self", "row"] ["self", "row"] (defScope sGrowerInit) := ⟨rfl, rfl, rfl, by decide +kernel, rfl, by decide +kernel, by decide +kernel⟩
theorem scGrowerLeaf : FnScope ["self", "shares", "share"] ["self", "shares"] (defScope sGrowerLeaf) := ⟨rfl, rfl, rfl, by decide +kernel, rfl, by decide +kernel, by decide +kernel⟩
theorem scGrowerGrown : FnScope ["self", "start", "shares", "number", "deed"] ["self", "start", "shares"] (defScope sGrowerGrown) := ⟨rfl, rfl, rfl, by decide +kernel, rfl, by decide +kernel, by decide +kernel⟩
theorem scGrowerParted : FnScope ["self", "number", "shares", "deed", "first", "second"] ["self", "number", "shares"] (defScope sGrowerParted) := ⟨rfl, rfl, rfl, by decide +kernel, rfl, by decide +kernel, by decide +kernel⟩
theorem sctreeof : FnScope ["row"] ["row"] (defScope streeof) := ⟨rfl, rfl, rfl, by decide +kernel, rfl, by decide +kernel, by decide +kernel⟩
theorem scSumEq : FnScope ["self", "other"] ["self", "other"] (defScope sSumEq) := ⟨rfl, rfl, rfl, by decide +kernel, rfl, by decide +kernel, by decide +kernel⟩
theorem scLeafEq : FnScope ["self", "other"] ["self", "other"] (defScope sLeafEq) := ⟨rfl, rfl, rfl, by decide +kernel, rfl, by decide +kernel, by decide +kernel⟩
theorem scTestEq : FnScope ["self", "other"] ["self", "other"] (defScope sTestEq) := ⟨rfl, rfl, rfl, by decide +kernel, rfl, by decide +kernel, by decide +kernel⟩
theorem scLstate : FnScope ["_law_source"] ["_law_source"] (defScope sLstate) := ⟨rfl, rfl, rfl, by decide +kernel, rfl, by decide +kernel, by decide +kernel⟩
theorem scLdigit : FnScope ["_law_state_here", "_law_base", "_law_found", "_law_extra"] ["_law_state_here", "_law_base"] (defScope sLdigit) := ⟨rfl, rfl, rfl, by decide +kernel, rfl, by decide +kernel, by decide +kernel⟩
theorem scLdeed : FnScope ["_law_s", "_law_sizes", "_law_many", "_law_a", "_law_way", "_law_b"] ["_law_s", "_law_sizes"] (defScope sLdeed) := ⟨rfl, rfl, rfl, by decide +kernel, rfl, by decide +kernel, by decide +kernel⟩
theorem scLhouse : FnScope ["_law_s", "_law_jars", "_law_most", "_law_deeds", "_law_sizes", "_law_k"] ["_law_s", "_law_jars", "_law_most", "_law_deeds"] (defScope sLhouse) := ⟨rfl, rfl, rfl, by decide +kernel, rfl, by decide +kernel, by decide +kernel⟩
theorem scLrow : FnScope ["_law_sizes", "_law_deeds", "_law_found", "_law_word", "_law_a", "_law_last"] ["_law_sizes", "_law_deeds"] (defScope sLrow) := ⟨rfl, rfl, rfl, by decide +kernel, rfl, by decide +kernel, by decide +kernel⟩
theorem scLstarts : FnScope ["_law_sizes", "_law_share", "_law_found", "_law_size", "_law_longer", "_law_start", "_law_number"] ["_law_sizes", "_law_share"] (defScope sLstarts) := ⟨rfl, rfl, rfl, by decide +kernel, rfl, by decide +kernel, by decide +kernel⟩
theorem scLcometo : FnScope ["_law_group", "_law_start", "_law_jar"] ["_law_group", "_law_start"] (defScope sLcometo) := ⟨rfl, rfl, rfl, by decide +kernel, rfl, by decide +kernel, by decide +kernel⟩
theorem scLtest : FnScope ["_law_sizes", "_law_deed_here", "_law_sums", "_law_word", "_law_a", "_law_last"] ["_law_sizes", "_law_deed_here", "_law_sums"] (defScope sLtest) := ⟨rfl, rfl, rfl, by decide +kernel, rfl, by decide +kernel, by decide +kernel⟩
theorem scLgone : FnScope ["_law_sizes", "_law_deed_here", "_law_sums", "_law_first", "_law_word", "_law_a", "_law_last", "_law_found", "_law_group", "_law_extra"] ["_law_sizes", "_law_deed_here", "_law_sums", "_law_first"] (defScope sLgone) := ⟨rfl, rfl, rfl, by decide +kernel, rfl, by decide +kernel, by decide +kernel⟩
theorem scLgrown : FnScope ["_law_m", "_law_at", "_law_sums", "_law_inside", "_law_sizes", "_law_deeds", "_law_share", "_law_first", "_law_group", "_law_limit", "_law_below", "_law_start", "_law_above", "_law_one", "_law_other", "_law_extra"] ["_law_m", "_law_at", "_law_sums", "_law_inside"] (defScope sLgrown) := ⟨rfl, rfl, rfl, by decide +kernel, rfl, by decide +kernel, by decide +kernel⟩
theorem scLtold : FnScope ["_law_tree", "_law_one"] ["_law_tree"] (defScope sLtold) := ⟨rfl, rfl, rfl, by decide +kernel, rfl, by decide +kernel, by decide +kernel⟩
theorem sclaw : FnScope ["_law_script", "_law_ahead", "_law_number", "_law_s", "_law_jars", "_law_sizes", "_law_deeds", "_law_share", "_law_inside", "_law_start", "_law_brims", "_law_k", "_law_begun", "_law_jar", "_law_due", "_law_row_here", "_law_tree", "_law_as_told"] ["_law_script"] (defScope slaw) := ⟨rfl, rfl, rfl, by decide +kernel, rfl, by decide +kernel, by decide +kernel⟩
structure TyIns (K : PySem.W.Frag) (C : Addr) : Prop where
  ha : PySem.W.findIn K (.ref C) "__class__" = some (some (.builtin "object.__class__"))
  hn : PySem.W.specialIn K (.builtin "object.__class__") "__get__" = some (some (.builtin "getset_descriptor.__get__"))
  ht : PySem.W.takesIn K (.builtin "object.__class__") = some true
  hm : PySem.W.mroIn K C (.type "object") = some true
structure Tx (K : PySem.W.Frag) (mg : Str → Option Value) : Type where
  cJars : Addr
  cPour : Addr
  cPut : Addr
  cDraw : Addr
  cChange : Addr
  cRow : Addr
  cShare : Addr
  cSum : Addr
  cLeaf : Addr
  cTest : Addr
  cGrower : Addr
  cTree : Addr
  acheckmuch : Addr
  dcheckmuch : FuncData
  acheckjar : Addr
  dcheckjar : FuncData
  acheckdeed : Addr
  dcheckdeed : FuncData
  aJarsInit : Addr
  dJarsInit : FuncData
  aPourInit : Addr
  dPourInit : FuncData
  aPutInit : Addr
  dPutInit : FuncData
  aDrawInit : Addr
  dDrawInit : FuncData
  aChangeInit : Addr
  dChangeInit : FuncData
  aRowInit : Addr
  dRowInit : FuncData
  aWideInit : Addr
  dWideInit : FuncData
  aShareInit : Addr
  dShareInit : FuncData
  afirstshares : Addr
  dfirstshares : FuncData
  aofnojar : Addr
  dofnojar : FuncData
  atogether : Addr
  dtogether : FuncData
  aatmost : Addr
  datmost : FuncData
  aatleast : Addr
  datleast : FuncData
  atested : Addr
  dtested : FuncData
  alimitof : Addr
  dlimitof : FuncData
  afirstway : Addr
  dfirstway : FuncData
  asecondway : Addr
  dsecondway : FuncData
  aischoice : Addr
  dischoice : FuncData
  aonlyway : Addr
  donlyway : FuncData
  aSumInit : Addr
  dSumInit : FuncData
  aLeafInit : Addr
  dLeafInit : FuncData
  aTestInit : Addr
  dTestInit : FuncData
  aGrowerInit : Addr
  dGrowerInit : FuncData
  aGrowerLeaf : Addr
  dGrowerLeaf : FuncData
  aGrowerGrown : Addr
  dGrowerGrown : FuncData
  aGrowerParted : Addr
  dGrowerParted : FuncData
  atreeof : Addr
  dtreeof : FuncData
  aSumEq : Addr
  dSumEq : FuncData
  aLeafEq : Addr
  dLeafEq : FuncData
  aTestEq : Addr
  dTestEq : FuncData
  aLstate : Addr
  dLstate : FuncData
  aLdigit : Addr
  dLdigit : FuncData
  aLdeed : Addr
  dLdeed : FuncData
  aLhouse : Addr
  dLhouse : FuncData
  aLrow : Addr
  dLrow : FuncData
  aLstarts : Addr
  dLstarts : FuncData
  aLcometo : Addr
  dLcometo : FuncData
  aLtest : Addr
  dLtest : FuncData
  aLgone : Addr
  dLgone : FuncData
  aLgrown : Addr
  dLgrown : FuncData
  aLtold : Addr
  dLtold : FuncData
  alaw : Addr
  dlaw : FuncData
  tMOSTJARS : Tok
  tMOSTDEEDS : Tok
  tMOSTMUCH : Tok
  tMOSTLEAVES : Tok
  cWide : Addr
  fcheckmuch : Fun K "check_much" "check_much" scheckmuch acheckmuch dcheckmuch
  bcheckmuch : Binds K dcheckmuch ["what", "much"] []
  gcheckmuch : mg "check_much" = some (.ref acheckmuch)
  fcheckjar : Fun K "check_jar" "check_jar" scheckjar acheckjar dcheckjar
  bcheckjar : Binds K dcheckjar ["jars", "jar"] []
  gcheckjar : mg "check_jar" = some (.ref acheckjar)
  fcheckdeed : Fun K "check_deed" "check_deed" scheckdeed acheckdeed dcheckdeed
  bcheckdeed : Binds K dcheckdeed ["jars", "deed"] []
  gcheckdeed : mg "check_deed" = some (.ref acheckdeed)
  fJarsInit : Fun K "__init__" "Jars.__init__" sJarsInit aJarsInit dJarsInit
  bJarsInit : Binds K dJarsInit ["self", "sizes"] []
  fPourInit : Fun K "__init__" "Pour.__init__" sPourInit aPourInit dPourInit
  bPourInit : Binds K dPourInit ["self", "a", "b"] []
  fPutInit : Fun K "__init__" "Put.__init__" sPutInit aPutInit dPutInit
  bPutInit : Binds K dPutInit ["self", "a", "k"] []
  fDrawInit : Fun K "__init__" "Draw.__init__" sDrawInit aDrawInit dDrawInit
  bDrawInit : Binds K dDrawInit ["self", "a", "k"] []
  fChangeInit : Fun K "__init__" "Change.__init__" sChangeInit aChangeInit dChangeInit
  bChangeInit : Binds K dChangeInit ["self", "a", "b"] []
  fRowInit : Fun K "__init__" "Row.__init__" sRowInit aRowInit dRowInit
  bRowInit : Binds K dRowInit ["self", "jars", "deeds"] []
  fWideInit : Fun K "__init__" "Wide.__init__" sWideInit aWideInit dWideInit
  bWideInit : Binds K dWideInit ["self", "count"] []
  iWide : PySem.W.findIn K (.ref cWide) "__init__" = some (some (.ref aWideInit))
  tWide : PySem.W.typeIn K (.ref aWideInit) = some (.type "function")
  fShareInit : Fun K "__init__" "Share.__init__" sShareInit aShareInit dShareInit
  bShareInit : Binds K dShareInit ["self", "group", "more", "low", "high"] []
  ffirstshares : Fun K "first_shares" "first_shares" sfirstshares afirstshares dfirstshares
  bfirstshares : Binds K dfirstshares ["jars"] []
  gfirstshares : mg "first_shares" = some (.ref afirstshares)
  fofnojar : Fun K "of_no_jar" "of_no_jar" sofnojar aofnojar dofnojar
  bofnojar : Binds K dofnojar ["more"] []
  gofnojar : mg "of_no_jar" = some (.ref aofnojar)
  ftogether : Fun K "together" "together" stogether atogether dtogether
  btogether : Binds K dtogether ["share", "other"] []
  gtogether : mg "together" = some (.ref atogether)
  fatmost : Fun K "at_most" "at_most" satmost aatmost datmost
  batmost : Binds K datmost ["share", "limit", "added"] []
  gatmost : mg "at_most" = some (.ref aatmost)
  fatleast : Fun K "at_least" "at_least" satleast aatleast datleast
  batleast : Binds K datleast ["share", "limit", "added"] []
  gatleast : mg "at_least" = some (.ref aatleast)
  ftested : Fun K "tested" "tested" stested atested dtested
  btested : Binds K dtested ["deed", "shares"] []
  gtested : mg "tested" = some (.ref atested)
  flimitof : Fun K "limit_of" "limit_of" slimitof alimitof dlimitof
  blimitof : Binds K dlimitof ["jars", "deed", "shares"] []
  glimitof : mg "limit_of" = some (.ref alimitof)
  ffirstway : Fun K "first_way" "first_way" sfirstway afirstway dfirstway
  bfirstway : Binds K dfirstway ["jars", "deed", "shares"] []
  gfirstway : mg "first_way" = some (.ref afirstway)
  fsecondway : Fun K "second_way" "second_way" ssecondway asecondway dsecondway
  bsecondway : Binds K dsecondway ["jars", "deed", "shares"] []
  gsecondway : mg "second_way" = some (.ref asecondway)
  fischoice : Fun K "is_choice" "is_choice" sischoice aischoice dischoice
  bischoice : Binds K dischoice ["jars", "deed", "shares"] []
  gischoice : mg "is_choice" = some (.ref aischoice)
  fonlyway : Fun K "only_way" "only_way" sonlyway aonlyway donlyway
  bonlyway : Binds K donlyway ["jars", "deed", "shares"] []
  gonlyway : mg "only_way" = some (.ref aonlyway)
  fSumInit : Fun K "__init__" "Sum.__init__" sSumInit aSumInit dSumInit
  bSumInit : Binds K dSumInit ["self", "group", "more"] []
  fLeafInit : Fun K "__init__" "Leaf.__init__" sLeafInit aLeafInit dLeafInit
  bLeafInit : Binds K dLeafInit ["self", "sums"] []
  fTestInit : Fun K "__init__" "Test.__init__" sTestInit aTestInit dTestInit
  bTestInit : Binds K dTestInit ["self", "deed", "group", "limit", "first", "second"] []
  fGrowerInit : Fun K "__init__" "Grower.__init__" sGrowerInit aGrowerInit dGrowerInit
  bGrowerInit : Binds K dGrowerInit ["self", "row"] []
  fGrowerLeaf : Fun K "leaf" "Grower.leaf" sGrowerLeaf aGrowerLeaf dGrowerLeaf
  bGrowerLeaf : Binds K dGrowerLeaf ["self", "shares"] []
  meGrowerLeaf : Meth K cGrower "leaf" aGrowerLeaf
  fGrowerGrown : Fun K "grown" "Grower.grown" sGrowerGrown aGrowerGrown dGrowerGrown
  bGrowerGrown : Binds K dGrowerGrown ["self", "start", "shares"] []
  meGrowerGrown : Meth K cGrower "grown" aGrowerGrown
  fGrowerParted : Fun K "parted" "Grower.parted" sGrowerParted aGrowerParted dGrowerParted
  bGrowerParted : Binds K dGrowerParted ["self", "number", "shares"] []
  meGrowerParted : Meth K cGrower "parted" aGrowerParted
  ftreeof : Fun K "tree_of" "tree_of" streeof atreeof dtreeof
  btreeof : Binds K dtreeof ["row"] []
  gtreeof : mg "tree_of" = some (.ref atreeof)
  fSumEq : Fun K "__eq__" "Sum.__eq__" sSumEq aSumEq dSumEq
  bSumEq : Binds K dSumEq ["self", "other"] []
  eSumEq : PySem.W.findIn K (.ref cSum) "__eq__" = some (some (.ref aSumEq))
  eiSumEq : PySem.W.isFn K (.ref aSumEq) = true
  fLeafEq : Fun K "__eq__" "Leaf.__eq__" sLeafEq aLeafEq dLeafEq
  bLeafEq : Binds K dLeafEq ["self", "other"] []
  eLeafEq : PySem.W.findIn K (.ref cLeaf) "__eq__" = some (some (.ref aLeafEq))
  eiLeafEq : PySem.W.isFn K (.ref aLeafEq) = true
  fTestEq : Fun K "__eq__" "Test.__eq__" sTestEq aTestEq dTestEq
  bTestEq : Binds K dTestEq ["self", "other"] []
  eTestEq : PySem.W.findIn K (.ref cTest) "__eq__" = some (some (.ref aTestEq))
  eiTestEq : PySem.W.isFn K (.ref aTestEq) = true
  fLstate : Fun K "_law_state" "_law_state" sLstate aLstate dLstate
  bLstate : Binds K dLstate ["_law_source"] []
  gLstate : mg "_law_state" = some (.ref aLstate)
  fLdigit : Fun K "_law_digit" "_law_digit" sLdigit aLdigit dLdigit
  bLdigit : Binds K dLdigit ["_law_state_here", "_law_base"] []
  gLdigit : mg "_law_digit" = some (.ref aLdigit)
  fLdeed : Fun K "_law_deed" "_law_deed" sLdeed aLdeed dLdeed
  bLdeed : Binds K dLdeed ["_law_s", "_law_sizes"] []
  gLdeed : mg "_law_deed" = some (.ref aLdeed)
  fLhouse : Fun K "_law_house" "_law_house" sLhouse aLhouse dLhouse
  bLhouse : Binds K dLhouse ["_law_s", "_law_jars", "_law_most", "_law_deeds"] []
  gLhouse : mg "_law_house" = some (.ref aLhouse)
  fLrow : Fun K "_law_row" "_law_row" sLrow aLrow dLrow
  bLrow : Binds K dLrow ["_law_sizes", "_law_deeds"] []
  gLrow : mg "_law_row" = some (.ref aLrow)
  fLstarts : Fun K "_law_starts" "_law_starts" sLstarts aLstarts dLstarts
  bLstarts : Binds K dLstarts ["_law_sizes", "_law_share"] []
  gLstarts : mg "_law_starts" = some (.ref aLstarts)
  fLcometo : Fun K "_law_come_to" "_law_come_to" sLcometo aLcometo dLcometo
  bLcometo : Binds K dLcometo ["_law_group", "_law_start"] []
  gLcometo : mg "_law_come_to" = some (.ref aLcometo)
  fLtest : Fun K "_law_test" "_law_test" sLtest aLtest dLtest
  bLtest : Binds K dLtest ["_law_sizes", "_law_deed_here", "_law_sums"] []
  gLtest : mg "_law_test" = some (.ref aLtest)
  fLgone : Fun K "_law_gone" "_law_gone" sLgone aLgone dLgone
  bLgone : Binds K dLgone ["_law_sizes", "_law_deed_here", "_law_sums", "_law_first"] []
  gLgone : mg "_law_gone" = some (.ref aLgone)
  fLgrown : Fun K "_law_grown" "_law_grown" sLgrown aLgrown dLgrown
  bLgrown : Binds K dLgrown ["_law_m", "_law_at", "_law_sums", "_law_inside"] []
  gLgrown : mg "_law_grown" = some (.ref aLgrown)
  fLtold : Fun K "_law_told" "_law_told" sLtold aLtold dLtold
  bLtold : Binds K dLtold ["_law_tree"] []
  gLtold : mg "_law_told" = some (.ref aLtold)
  flaw : Fun K "law" "law" slaw alaw dlaw
  blaw : Binds K dlaw ["_law_script"] []
  glaw : mg "law" = some (.ref alaw)
  mJars : mg "Jars" = some (.ref cJars)
  lJars : Cls K cJars
  kJars : Mk K cJars aJarsInit
  nJars_sizes : NoAttr K cJars "sizes"
  mPour : mg "Pour" = some (.ref cPour)
  lPour : Cls K cPour
  kPour : Mk K cPour aPourInit
  nPour_a : NoAttr K cPour "a"
  nPour_b : NoAttr K cPour "b"
  mPut : mg "Put" = some (.ref cPut)
  lPut : Cls K cPut
  kPut : Mk K cPut aPutInit
  nPut_a : NoAttr K cPut "a"
  nPut_k : NoAttr K cPut "k"
  mDraw : mg "Draw" = some (.ref cDraw)
  lDraw : Cls K cDraw
  kDraw : Mk K cDraw aDrawInit
  nDraw_a : NoAttr K cDraw "a"
  nDraw_k : NoAttr K cDraw "k"
  mChange : mg "Change" = some (.ref cChange)
  lChange : Cls K cChange
  kChange : Mk K cChange aChangeInit
  nChange_a : NoAttr K cChange "a"
  nChange_b : NoAttr K cChange "b"
  mRow : mg "Row" = some (.ref cRow)
  lRow : Cls K cRow
  kRow : Mk K cRow aRowInit
  nRow_jars : NoAttr K cRow "jars"
  nRow_deeds : NoAttr K cRow "deeds"
  mShare : mg "Share" = some (.ref cShare)
  lShare : Cls K cShare
  kShare : Mk K cShare aShareInit
  nShare_group : NoAttr K cShare "group"
  nShare_more : NoAttr K cShare "more"
  nShare_low : NoAttr K cShare "low"
  nShare_high : NoAttr K cShare "high"
  mSum : mg "Sum" = some (.ref cSum)
  lSum : Cls K cSum
  kSum : Mk K cSum aSumInit
  nSum_group : NoAttr K cSum "group"
  nSum_more : NoAttr K cSum "more"
  mLeaf : mg "Leaf" = some (.ref cLeaf)
  lLeaf : Cls K cLeaf
  kLeaf : Mk K cLeaf aLeafInit
  nLeaf_sums : NoAttr K cLeaf "sums"
  mTest : mg "Test" = some (.ref cTest)
  lTest : Cls K cTest
  kTest : Mk K cTest aTestInit
  nTest_deed : NoAttr K cTest "deed"
  nTest_group : NoAttr K cTest "group"
  nTest_limit : NoAttr K cTest "limit"
  nTest_first : NoAttr K cTest "first"
  nTest_second : NoAttr K cTest "second"
  mGrower : mg "Grower" = some (.ref cGrower)
  lGrower : Cls K cGrower
  kGrower : Mk K cGrower aGrowerInit
  nGrower_jars : NoAttr K cGrower "jars"
  nGrower_deeds : NoAttr K cGrower "deeds"
  nGrower_leaves : NoAttr K cGrower "leaves"
  mTree : mg "Tree" = some (.ref cTree)
  lTree : Cls K cTree
  mWide : mg "Wide" = some (.ref cWide)
  oWide : OexC K cWide
  xfWide : XfC K cWide
  nWide_count : PySem.W.findIn K (.ref cWide) "count" = some none
  emWide_Wide : PySem.W.exmOne K (.ref cWide) (.ref cWide) = some true
  neLeaf : NeK K cLeaf aLeafEq
  neTest : NeK K cTest aTestEq
  nfLeaf_Test : PySem.W.notFirst K cLeaf (.ref cTest) = true
  nfTest_Leaf : PySem.W.notFirst K cTest (.ref cLeaf) = true
  yChange : TyIns K cChange
  yDraw : TyIns K cDraw
  yLeaf : TyIns K cLeaf
  yPour : TyIns K cPour
  yPut : TyIns K cPut
  ySum : TyIns K cSum
  yTest : TyIns K cTest
  iPour_Put : PySem.W.kitOne K (.ref cPour) (.ref cPut) = some false
  iPour_Draw : PySem.W.kitOne K (.ref cPour) (.ref cDraw) = some false
  iPour_Pour : PySem.W.kitOne K (.ref cPour) (.ref cPour) = some true
  iPour_Change : PySem.W.kitOne K (.ref cPour) (.ref cChange) = some false
  iPut_Put : PySem.W.kitOne K (.ref cPut) (.ref cPut) = some true
  iPut_Draw : PySem.W.kitOne K (.ref cPut) (.ref cDraw) = some false
  iPut_Pour : PySem.W.kitOne K (.ref cPut) (.ref cPour) = some false
  iPut_Change : PySem.W.kitOne K (.ref cPut) (.ref cChange) = some false
  iDraw_Put : PySem.W.kitOne K (.ref cDraw) (.ref cPut) = some false
  iDraw_Draw : PySem.W.kitOne K (.ref cDraw) (.ref cDraw) = some true
  iDraw_Pour : PySem.W.kitOne K (.ref cDraw) (.ref cPour) = some false
  iDraw_Change : PySem.W.kitOne K (.ref cDraw) (.ref cChange) = some false
  iChange_Put : PySem.W.kitOne K (.ref cChange) (.ref cPut) = some false
  iChange_Draw : PySem.W.kitOne K (.ref cChange) (.ref cDraw) = some false
  iChange_Pour : PySem.W.kitOne K (.ref cChange) (.ref cPour) = some false
  iChange_Change : PySem.W.kitOne K (.ref cChange) (.ref cChange) = some true
  iLeaf_Leaf : PySem.W.kitOne K (.ref cLeaf) (.ref cLeaf) = some true
  iTest_Leaf : PySem.W.kitOne K (.ref cTest) (.ref cLeaf) = some false
  iSum_Sum : PySem.W.kitOne K (.ref cSum) (.ref cSum) = some true
  iLeaf_Test : PySem.W.kitOne K (.ref cLeaf) (.ref cTest) = some false
  iLeaf_Tree : PySem.W.kitOne K (.ref cLeaf) (.ref cTree) = some true
  iTest_Test : PySem.W.kitOne K (.ref cTest) (.ref cTest) = some true
  iTest_Tree : PySem.W.kitOne K (.ref cTest) (.ref cTree) = some true
  cMOSTJARS : mg "MOST_JARS" = some (.int 6 tMOSTJARS)
  cMOSTDEEDS : mg "MOST_DEEDS" = some (.int 20 tMOSTDEEDS)
  cMOSTMUCH : mg "MOST_MUCH" = some (.int 1000000000000 tMOSTMUCH)
  cMOSTLEAVES : mg "MOST_LEAVES" = some (.int 24 tMOSTLEAVES)
  nabs : mg "abs" = none
  nenumerate : mg "enumerate" = none
  nint : mg "int" = none
  nisinstance : mg "isinstance" = none
  nlen : mg "len" = none
  nlist : mg "list" = none
  nmax : mg "max" = none
  nmin : mg "min" = none
  nrange : mg "range" = none
  nsorted : mg "sorted" = none
  nsum : mg "sum" = none
  ntuple : mg "tuple" = none
/-! ### fields -/
theorem put2 {a b : Str} {u v : V} (h : ¬ a = b) : putF b v (putF a u []) = ([(a, u), (b, v)] : List (Str × V)) := by
  show (if a = b then [(a, v)] else (a, u) :: putF b v []) = [(a, u), (b, v)]
  rw [if_neg h]
  rfl
theorem put_app {b : Str} {v : V} : ∀ {l : List (Str × V)}, (∀ p ∈ l, ¬ p.1 = b) → putF b v l = l ++ [(b, v)]
  | [], _ => rfl
  | (a, u) :: r, h => by
    show (if a = b then (a, v) :: r else (a, u) :: putF b v r) = (a, u) :: (r ++ [(b, v)])
    rw [if_neg (h (a, u) (List.mem_cons_self ..)), put_app fun p hp => h p (List.mem_cons_of_mem _ hp)]
theorem lk1 {a : Str} {x : V} {r : List (Str × V)} : List.lookup a ((a, x) :: r) = some x := by simp [List.lookup]
theorem lkS {a b : Str} {x : V} {r : List (Str × V)} (h : ¬ b = a) : List.lookup b ((a, x) :: r) = List.lookup b r := by
  have : (b == a) = false := by simpa using h
  simp [List.lookup, this]
theorem lk2 {a b : Str} {x y : V} {r : List (Str × V)} (h : ¬ b = a) : List.lookup b ((a, x) :: (b, y) :: r) = some y := (lkS h).trans lk1
theorem lk3 {a b c : Str} {x y z : V} {r : List (Str × V)} (h : ¬ c = a) (h2 : ¬ c = b) : List.lookup c ((a, x) :: (b, y) :: (c, z) :: r) = some z := (lkS h).trans ((lkS h2).trans lk1)
theorem lk4 {a b c d : Str} {x y z w : V} {r : List (Str × V)} (h : ¬ d = a) (h2 : ¬ d = b) (h3 : ¬ d = c) : List.lookup d ((a, x) :: (b, y) :: (c, z) :: (d, w) :: r) = some w := (lkS h).trans ((lkS h2).trans ((lkS h3).trans lk1))
theorem lk5 {a b c d e : Str} {x y z w q : V} {r : List (Str × V)} (h : ¬ e = a) (h2 : ¬ e = b) (h3 : ¬ e = c) (h4 : ¬ e = d) : List.lookup e ((a, x) :: (b, y) :: (c, z) :: (d, w) :: (e, q) :: r) = some q := (lkS h).trans ((lkS h2).trans ((lkS h3).trans ((lkS h4).trans lk1)))
def rLenK (K : PySem.W.Frag) : List V → Hp → VK → Prop := fun xs H Q => ∃ p ys, xs = [V.ref p] ∧ (SqL K H p ys ∨ SqT K H p ys) ∧ Q (V.int (ys.length : Nat)) H
/-! ### things in the heap -/
section
variable {K : PySem.W.Frag} {mg : Str → Option Value}
def f1s (a : Str) (x : V) : List (Str × V) := [(a, x)]
def f2s (a : Str) (x : V) (b : Str) (y : V) : List (Str × V) := [(a, x), (b, y)]
/-- what a grower holds -/
def fgs (x y : V) (n : Int) : List (Str × V) := [("jars", x), ("deeds", y), ("leaves", .int n)]
def DeedAt (T : Tx K mg) (H : Hp) (v : V) (d : D) : Prop := ∃ p dx, v = .ref p ∧ match d with
  | .pour a b => H p = some (.ins T.cPour dx (f2s "a" (.int a) "b" (.int b)))
  | .put a k => H p = some (.ins T.cPut dx (f2s "a" (.int a) "k" (.int k)))
  | .draw a k => H p = some (.ins T.cDraw dx (f2s "a" (.int a) "k" (.int k)))
  | .change a b => H p = some (.ins T.cChange dx (f2s "a" (.int a) "b" (.int b)))
def JarsAt (T : Tx K mg) (H : Hp) (p : Addr) (caps : List Int) : Prop := ∃ dx t, H p = some (.ins T.cJars dx (f1s "sizes" (.ref t))) ∧ H t = some (.tup (vi caps))
def RowAt (T : Tx K mg) (H : Hp) (r : Addr) (caps : List Int) (ds : List D) : Prop := ∃ dx j t vs, H r = some (.ins T.cRow dx (f2s "jars" (.ref j) "deeds" (.ref t))) ∧ JarsAt T H j caps ∧ H t = some (.tup vs) ∧ A2 (DeedAt T H) vs ds
theorem DeedAt.same {T : Tx K mg} {H H' : Hp} {v : V} {d : D} (e : Same H H') (h : DeedAt T H v d) : DeedAt T H' v d := by
  obtain ⟨p, dx, rfl, h⟩ := h
  refine ⟨p, dx, rfl, ?_⟩
  cases d <;> exact e _ _ h
theorem JarsAt.same {T : Tx K mg} {H H' : Hp} {p : Addr} {caps : List Int} (e : Same H H') (h : JarsAt T H p caps) : JarsAt T H' p caps := by
  obtain ⟨dx, t, h1, h2⟩ := h
  exact ⟨dx, t, e _ _ h1, e _ _ h2⟩
theorem RowAt.same {T : Tx K mg} {H H' : Hp} {p : Addr} {caps : List Int} {ds : List D} (e : Same H H') (h : RowAt T H p caps ds) : RowAt T H' p caps ds := by
  obtain ⟨dx, j, t, vs, h1, h2, h3, h4⟩ := h
  exact ⟨dx, j, t, vs, e _ _ h1, h2.same e, e _ _ h3, A2.mono (fun _ _ q => q.same e) h4⟩
/-- a list, an instance without fields, or a grower: what a def may change -/
def Blank (o : HO) : Prop := (∃ ws, o = .lst ws) ∨ (∃ C dx, o = .ins C dx []) ∨ (∃ C dx x y n, o = .ins C dx (fgs x y n)) ∨ ∃ kvs, o = .dK kvs
theorem bl_l {ws : List V} : Blank (.lst ws) := .inl ⟨ws, rfl⟩
theorem bl_i {C dx : Addr} : Blank (.ins C dx []) := .inr (.inl ⟨C, dx, rfl⟩)
theorem bl_g {C dx : Addr} {x y : V} {n : Int} : Blank (.ins C dx (fgs x y n)) := .inr (.inr (.inl ⟨C, dx, x, y, n, rfl⟩))
theorem bl_d {kvs : List (Key × V)} : Blank (.dK kvs) := .inr (.inr (.inr ⟨kvs, rfl⟩))
theorem nbI {C dx : Addr} {fs : List (Str × V)} (h0 : fs ≠ []) (h : ∀ x y n, fs ≠ fgs x y n) : ¬ Blank (.ins C dx fs) := by
  rintro (⟨_, z⟩ | ⟨_, _, z⟩ | ⟨_, _, x, y, n, z⟩ | ⟨_, z⟩)
  · cases z
  · injection z with _ _ z
    exact h0 z
  · injection z with _ _ z
    exact h x y n z
  · cases z
theorem nb1 {C dx : Addr} {a : Str} {x : V} : ¬ Blank (.ins C dx (f1s a x)) := nbI (fun z => by cases z) fun _ _ _ z => by simp [f1s, fgs] at z
theorem nb2 {C dx : Addr} {a b : Str} {x y : V} : ¬ Blank (.ins C dx (f2s a x b y)) := nbI (fun z => by cases z) fun _ _ _ z => by simp [f2s, fgs] at z
theorem nbT {xs : List V} : ¬ Blank (.tup xs) := by
  rintro (⟨_, z⟩ | ⟨_, _, z⟩ | ⟨_, _, _, _, _, z⟩ | ⟨_, z⟩) <;> cases z
/-- all but one thing at w stays: what is no list stays -/
theorem fr_no {w : Addr} {H H' : Hp} {u : HO} {b : Addr} {o : HO} (e : Fr w H H') (hw : H w = some u) (hb : Blank u) (h : H b = some o) (n : ¬ Blank o) : H' b = some o :=
  e b o (fun z => by rw [z, hw] at h; cases h; exact n hb) h
theorem DeedAt.fr {T : Tx K mg} {w : Addr} {H H' : Hp} {u : HO} {v : V} {d : D} (e : Fr w H H') (hw : H w = some u) (hb : Blank u) (h : DeedAt T H v d) : DeedAt T H' v d := by
  obtain ⟨p, dx, rfl, h⟩ := h
  refine ⟨p, dx, rfl, ?_⟩
  cases d <;> exact fr_no e hw hb h nb2
theorem JarsAt.fr {T : Tx K mg} {w : Addr} {H H' : Hp} {u : HO} {p : Addr} {caps : List Int} (e : Fr w H H') (hw : H w = some u) (hb : Blank u) (h : JarsAt T H p caps) : JarsAt T H' p caps := by
  obtain ⟨dx, t, h1, h2⟩ := h
  exact ⟨dx, t, fr_no e hw hb h1 nb1, fr_no e hw hb h2 nbT⟩
theorem RowAt.fr {T : Tx K mg} {w : Addr} {H H' : Hp} {u : HO} {p : Addr} {caps : List Int} {ds : List D} (e : Fr w H H') (hw : H w = some u) (hb : Blank u) (h : RowAt T H p caps ds) : RowAt T H' p caps ds := by
  obtain ⟨dx, j, t, vs, h1, h2, h3, h4⟩ := h
  exact ⟨dx, j, t, vs, fr_no e hw hb h1 nb2, h2.fr e hw hb, fr_no e hw hb h3 nbT, A2.mono (fun _ _ q => q.fr e hw hb) h4⟩
/-! ### the promises of the program's defs -/
def spcheckmuch (T : Tx K mg) : Sp := fun vs H Q _ => ∃ (x : Str) (n : Int), vs = [.str x, .int n] ∧ 1 ≤ n ∧ n ≤ 1000000000000 ∧ Q .non H
def spcheckjar (T : Tx K mg) : Sp := fun vs H Q _ => ∃ (j : Addr) (caps : List Int) (i : Nat), vs = [.ref j, .int i] ∧ JarsAt T H j caps ∧ i < caps.length ∧ Q .non H
def spcheckdeed (T : Tx K mg) : Sp := fun vs H Q _ => ∃ (j : Addr) (caps : List Int) (v : V) (d : D), vs = [.ref j, v] ∧ JarsAt T H j caps ∧ DeedAt T H v d ∧ d.ok caps ∧ Q .non H
def spJarsInit (T : Tx K mg) : Sp := fun vs H Q _ => ∃ (p dx a : Addr) (caps : List Int), vs = [.ref p, .ref a] ∧ H p = some (.ins T.cJars dx []) ∧ SqL K H a (vi caps) ∧ Caps caps ∧
  ∀ H', JarsAt T H' p caps → Fr p H H' → Q .non H'
/-- an __init__ that stores two ints -/
def spTwo (C : Addr) (f g : Str) : Sp := fun vs H Q _ => ∃ (p dx : Addr) (u v : V), vs = [.ref p, u, v] ∧ H p = some (.ins C dx []) ∧ ∀ H', H' p = some (.ins C dx (f2s f u g v)) → Fr p H H' → Q .non H'
def spPourInit (T : Tx K mg) : Sp := spTwo T.cPour "a" "b"
def spPutInit (T : Tx K mg) : Sp := spTwo T.cPut "a" "k"
def spDrawInit (T : Tx K mg) : Sp := spTwo T.cDraw "a" "k"
def spChangeInit (T : Tx K mg) : Sp := spTwo T.cChange "a" "b"
def spRowInit (T : Tx K mg) : Sp := fun vs H Q _ => ∃ (p dx j a : Addr) (caps : List Int) (us : List V) (ds : List D), vs = [.ref p, .ref j, .ref a] ∧ H p = some (.ins T.cRow dx []) ∧ JarsAt T H j caps ∧ H a = some (.lst us) ∧ A2 (DeedAt T H) us ds ∧
  ds.length ≤ 20 ∧ (∀ d ∈ ds, d.ok caps) ∧ ∀ H', RowAt T H' p caps ds → Fr p H H' → Q .non H'
end
section
variable {P : Program} {w : World} {K : PySem.W.Frag} {mg : Str → Option Value} {base : Heap}
/-! ### the program's bodies -/
theorem okcheckmuch (T : Tx K mg) : FnOk P w K mg base CX0 1 T.acheckmuch T.dcheckmuch ["what", "much"] (spcheckmuch T) := by
  refine T.fcheckmuch.ok sccheckmuch (fun vs H Q E h => ?_) (fun cdv A outer s H vs Q E hr h => ?_)
  · obtain ⟨x, n, rfl, _⟩ := h
    rfl
  · obtain ⟨x, n, rfl, h1, h2, hq⟩ := h
    refine ⟨_, (pss_one (ps_if (pt_not (pt_chain op_le op_le pe_int (pv 1) (pe_glob (v := .int 1000000000000) rfl T.cMOSTMUCH ⟨_, rfl⟩))) (pss_one ps_never) pss_nil)), ?_⟩
    refine ⟨_, rfl, _, _, rfl, rfl, _, rfl, ifT (decide_eq_true h1) ?_⟩
    exact ⟨_, _, rfl, rfl, _, rfl, iteNS h2 hq⟩
theorem okcheckjar (T : Tx K mg) : FnOk P w K mg base CX0 1 T.acheckjar T.dcheckjar ["jars", "jar"] (spcheckjar T) := by
  refine T.fcheckjar.ok sccheckjar (fun vs H Q E h => ?_) (fun cdv A outer s H vs Q E hr h => ?_)
  · obtain ⟨j, caps, i, rfl, _⟩ := h
    rfl
  · obtain ⟨j, caps, i, rfl, ⟨dx, t, e1, e2⟩, hi, hq⟩ := h
    refine ⟨_, (pss_one (ps_if (pt_not (pt_chain op_le op_lt pe_int (pv 1) (pe_callB call_len_seq rfl T.nlen PySem.boot_len (pa_cons (pe_fld (pv 0) rfl) pa_nil)))) (pss_one ps_never) pss_nil)), ?_⟩
    refine ⟨_, rfl, _, _, rfl, rfl, _, rfl, ifT (decide_eq_true (by omega)) ?_⟩
    refine ⟨_, rfl, j, _, dx, _, _, rfl, e1, T.lJars, T.nJars_sizes, lk1, t, _, rfl, .inr (SqT.of e2), _, _, rfl, rfl, _, rfl, iteNS (by rw [List.length_map]; omega) hq⟩
theorem okPourInit (T : Tx K mg) : FnOk P w K mg base CX0 1 T.aPourInit T.dPourInit ["self", "a", "b"] (spPourInit T) := by
  refine T.fPourInit.ok scPourInit (fun vs H Q E h => ?_) (fun cdv A outer s H vs Q E hr h => ?_)
  · obtain ⟨p, dx, u, v, rfl, _⟩ := h
    rfl
  · obtain ⟨p, dx, u, v, rfl, hp, hq⟩ := h
    refine ⟨_, (pss_cons (ps_fld (pv 0) (pv 1) rfl)
      (pss_one (ps_fld (pv 0) (pv 2) rfl))), ?_⟩
    refine ⟨_, rfl, _, rfl, p, _, dx, _, rfl, hp, T.lPour, T.nPour_a, (by show 0 < 1000; decide), ?_⟩
    refine ⟨_, rfl, _, rfl, p, _, dx, _, rfl, upd_same, T.lPour, T.nPour_b, (by show 1 < 1000; decide), ?_⟩
    refine hq _ ?_ (fr_mut (fr_mut (Fr.refl _ _)))
    rw [upd_same, put2 (by decide +kernel)]
    rfl
theorem okPutInit (T : Tx K mg) : FnOk P w K mg base CX0 1 T.aPutInit T.dPutInit ["self", "a", "k"] (spPutInit T) := by
  refine T.fPutInit.ok scPutInit (fun vs H Q E h => ?_) (fun cdv A outer s H vs Q E hr h => ?_)
  · obtain ⟨p, dx, u, v, rfl, _⟩ := h
    rfl
  · obtain ⟨p, dx, u, v, rfl, hp, hq⟩ := h
    refine ⟨_, (pss_cons (ps_fld (pv 0) (pv 1) rfl)
      (pss_one (ps_fld (pv 0) (pv 2) rfl))), ?_⟩
    refine ⟨_, rfl, _, rfl, p, _, dx, _, rfl, hp, T.lPut, T.nPut_a, (by show 0 < 1000; decide), ?_⟩
    refine ⟨_, rfl, _, rfl, p, _, dx, _, rfl, upd_same, T.lPut, T.nPut_k, (by show 1 < 1000; decide), ?_⟩
    refine hq _ ?_ (fr_mut (fr_mut (Fr.refl _ _)))
    rw [upd_same, put2 (by decide +kernel)]
    rfl
theorem okDrawInit (T : Tx K mg) : FnOk P w K mg base CX0 1 T.aDrawInit T.dDrawInit ["self", "a", "k"] (spDrawInit T) := by
  refine T.fDrawInit.ok scDrawInit (fun vs H Q E h => ?_) (fun cdv A outer s H vs Q E hr h => ?_)
  · obtain ⟨p, dx, u, v, rfl, _⟩ := h
    rfl
  · obtain ⟨p, dx, u, v, rfl, hp, hq⟩ := h
    refine ⟨_, (pss_cons (ps_fld (pv 0) (pv 1) rfl)
      (pss_one (ps_fld (pv 0) (pv 2) rfl))), ?_⟩
    refine ⟨_, rfl, _, rfl, p, _, dx, _, rfl, hp, T.lDraw, T.nDraw_a, (by show 0 < 1000; decide), ?_⟩
    refine ⟨_, rfl, _, rfl, p, _, dx, _, rfl, upd_same, T.lDraw, T.nDraw_k, (by show 1 < 1000; decide), ?_⟩
    refine hq _ ?_ (fr_mut (fr_mut (Fr.refl _ _)))
    rw [upd_same, put2 (by decide +kernel)]
    rfl
theorem okChangeInit (T : Tx K mg) : FnOk P w K mg base CX0 1 T.aChangeInit T.dChangeInit ["self", "a", "b"] (spChangeInit T) := by
  refine T.fChangeInit.ok scChangeInit (fun vs H Q E h => ?_) (fun cdv A outer s H vs Q E hr h => ?_)
  · obtain ⟨p, dx, u, v, rfl, _⟩ := h
    rfl
  · obtain ⟨p, dx, u, v, rfl, hp, hq⟩ := h
    refine ⟨_, (pss_cons (ps_fld (pv 0) (pv 1) rfl)
      (pss_one (ps_fld (pv 0) (pv 2) rfl))), ?_⟩
    refine ⟨_, rfl, _, rfl, p, _, dx, _, rfl, hp, T.lChange, T.nChange_a, (by show 0 < 1000; decide), ?_⟩
    refine ⟨_, rfl, _, rfl, p, _, dx, _, rfl, upd_same, T.lChange, T.nChange_b, (by show 1 < 1000; decide), ?_⟩
    refine hq _ ?_ (fr_mut (fr_mut (Fr.refl _ _)))
    rw [upd_same, put2 (by decide +kernel)]
    rfl
end
end Kp

namespace Kp
open PySem PySem.Spec PyProof.Rows L2 KpR
section
variable {P : Program} {w : World} {K : PySem.W.Frag} {mg : Str → Option Value} {base : Heap}
/-! ### isinstance of a deed -/
def D.cls (T : Tx K mg) : D → Addr
  | .pour _ _ => T.cPour
  | .put _ _ => T.cPut
  | .draw _ _ => T.cDraw
  | .change _ _ => T.cChange
def D.fst : D → Nat
  | .pour a _ => a
  | .put a _ => a
  | .draw a _ => a
  | .change a _ => a
def D.fs : D → List (Str × V)
  | .pour a b => f2s "a" (.int a) "b" (.int b)
  | .put a k => f2s "a" (.int a) "k" (.int k)
  | .draw a k => f2s "a" (.int a) "k" (.int k)
  | .change a b => f2s "a" (.int a) "b" (.int b)
theorem deed_at {T : Tx K mg} {H : Hp} {v : V} {d : D} (h : DeedAt T H v d) : ∃ p dx, v = .ref p ∧ H p = some (.ins (d.cls T) dx d.fs) := by
  obtain ⟨p, dx, rfl, h⟩ := h
  cases d <;> exact ⟨p, dx, rfl, h⟩
theorem cls_cls (T : Tx K mg) (d : D) : Cls K (d.cls T) := by
  cases d
  · exact T.lPour
  · exact T.lPut
  · exact T.lDraw
  · exact T.lChange
theorem no_a (T : Tx K mg) (d : D) : NoAttr K (d.cls T) "a" := by
  cases d
  · exact T.nPour_a
  · exact T.nPut_a
  · exact T.nDraw_a
  · exact T.nChange_a
theorem fs_a (d : D) : d.fs.lookup ("a" : Str) = some (.int d.fst) := by
  cases d <;> exact lk1
theorem ty_deed {T : Tx K mg} {H : Hp} {p dx : Addr} {d : D} (h : H p = some (.ins (d.cls T) dx d.fs)) : TyX K H (.ref p) (.ref (d.cls T)) := by
  refine .base ?_
  cases d
  · exact .ins h T.lPour T.yPour.ha T.yPour.hn T.yPour.ht T.yPour.hm
  · exact .ins h T.lPut T.yPut.ha T.yPut.hn T.yPut.ht T.yPut.hm
  · exact .ins h T.lDraw T.yDraw.ha T.yDraw.hn T.yDraw.ht T.yDraw.hm
  · exact .ins h T.lChange T.yChange.ha T.yChange.hn T.yChange.ht T.yChange.hm
def D.isPut : D → Bool
  | .put _ _ => true
  | _ => false
def D.isDraw : D → Bool
  | .draw _ _ => true
  | _ => false
def D.isPour : D → Bool
  | .pour _ _ => true
  | _ => false
def D.isChange : D → Bool
  | .change _ _ => true
  | _ => false
theorem is_put (T : Tx K mg) (d : D) : PySem.W.kitOne K (.ref (d.cls T)) (.ref T.cPut) = some d.isPut := by
  cases d
  · exact T.iPour_Put
  · exact T.iPut_Put
  · exact T.iDraw_Put
  · exact T.iChange_Put
theorem is_draw (T : Tx K mg) (d : D) : PySem.W.kitOne K (.ref (d.cls T)) (.ref T.cDraw) = some d.isDraw := by
  cases d
  · exact T.iPour_Draw
  · exact T.iPut_Draw
  · exact T.iDraw_Draw
  · exact T.iChange_Draw
theorem is_pour (T : Tx K mg) (d : D) : PySem.W.kitOne K (.ref (d.cls T)) (.ref T.cPour) = some d.isPour := by
  cases d
  · exact T.iPour_Pour
  · exact T.iPut_Pour
  · exact T.iDraw_Pour
  · exact T.iChange_Pour
theorem is_change (T : Tx K mg) (d : D) : PySem.W.kitOne K (.ref (d.cls T)) (.ref T.cChange) = some d.isChange := by
  cases d
  · exact T.iPour_Change
  · exact T.iPut_Change
  · exact T.iDraw_Change
  · exact T.iChange_Change
theorem okcheckdeed (T : Tx K mg) : FnOk P w K mg base CX0 2 T.acheckdeed T.dcheckdeed ["jars", "deed"] (spcheckdeed T) := by
  refine T.fcheckdeed.ok sccheckdeed (fun vs H Q E h => ?_) (fun cdv A outer s H vs Q E hr h => ?_)
  · obtain ⟨j, caps, v, d, rfl, _⟩ := h
    rfl
  · obtain ⟨j, caps, v, d, rfl, hJ, hD, ok, hq⟩ := h
    refine ⟨_, (pss_cons (ps_expr (pe_call (okcheckjar T) (hr.mono (by decide)) rfl T.gcheckjar T.fcheckjar.kp T.bcheckjar .nil pass0 (pa_cons (pv 0) (pa_cons (pe_fld (pv 1) rfl) pa_nil))))
      (pss_cons (ps_if (PW.pt (pw_or (pt_val (pe_callB call_isi rfl T.nisinstance (by decide +kernel) (pa_cons (pv 1) (pa_cons (pe_glob (v := .ref T.cPut) rfl T.mPut rfl) pa_nil)))) (pw_or1 (pt_val (pe_callB call_isi rfl T.nisinstance (by decide +kernel) (pa_cons (pv 1) (pa_cons (pe_glob (v := .ref T.cDraw) rfl T.mDraw rfl) pa_nil))))))) (pss_cons (ps_expr (pe_call (okcheckmuch T) (hr.mono (by decide)) rfl T.gcheckmuch T.fcheckmuch.kp T.bcheckmuch .nil pass0 (pa_cons pe_str (pa_cons (pe_fld (pv 1) rfl) pa_nil))))
      (pss_one ps_retN)) pss_nil)
      (pss_cons (ps_expr (pe_call (okcheckjar T) (hr.mono (by decide)) rfl T.gcheckjar T.fcheckjar.kp T.bcheckjar .nil pass0 (pa_cons (pv 0) (pa_cons (pe_fld (pv 1) rfl) pa_nil))))
      (pss_cons (ps_if (pt_cmpR op_eq (pe_fld (pv 1) rfl) (pe_fld (pv 1) rfl) (nomark _)) (pss_one ps_never) pss_nil)
      (pss_one (ps_if (PW.pt (pw_and (pt_val (pe_callB call_isi rfl T.nisinstance (by decide +kernel) (pa_cons (pv 1) (pa_cons (pe_glob (v := .ref T.cChange) rfl T.mChange rfl) pa_nil)))) (pw_and1 (pt_cmpR op_ne (pe_ix (r := rIxT K) ix_tup (pe_fld (pv 0) rfl) (pe_fld (pv 1) rfl) (fun _ _ => rfl)) (pe_ix (r := rIxT K) ix_tup (pe_fld (pv 0) rfl) (pe_fld (pv 1) rfl) (fun _ _ => rfl)) (nomark _))))) (pss_one ps_never) pss_nil)))))), ?_⟩
    obtain ⟨p, dx, rfl, hp⟩ := deed_at hD
    have ty := ty_deed hp
    have ha : d.fst < caps.length := by cases d <;> exact ok.1
    refine ⟨_, rfl, _, rfl, p, _, dx, _, _, rfl, hp, cls_cls T d, no_a T d, fs_a d, j, caps, d.fst, rfl, hJ, ha, ?_⟩
    obtain ⟨jx, t, e1, e2⟩ := hJ
    refine ⟨_, rfl, .ref p, .ref T.cPut, _, _, _, rfl, .own _, ty, is_put T d, _, rfl, ?_⟩
    cases d with
    | put a k =>
      refine ifT rfl (ifT rfl ?_)
      exact ⟨_, rfl, p, _, dx, _, _, rfl, hp, T.lPut, T.nPut_k, lk2 (by decide +kernel), "much", k, rfl, ok.2.1, ok.2.2, hq⟩
    | draw a k =>
      refine ifF rfl ⟨_, rfl, .ref p, .ref T.cDraw, _, _, _, rfl, .own _, ty, T.iDraw_Draw, _, rfl, ifT rfl ?_⟩
      exact ⟨_, rfl, p, _, dx, _, _, rfl, hp, T.lDraw, T.nDraw_k, lk2 (by decide +kernel), "much", k, rfl, ok.2.1, ok.2.2, hq⟩
    | pour a b =>
      refine ifF rfl ⟨_, rfl, .ref p, .ref T.cDraw, _, _, _, rfl, .own _, ty, T.iPour_Draw, _, rfl, ifF rfl ?_⟩
      refine ⟨_, rfl, _, rfl, p, _, dx, _, _, rfl, hp, T.lPour, T.nPour_b, lk2 (by decide +kernel), j, caps, b, rfl, ⟨jx, t, e1, e2⟩, ok.2.1, ?_⟩
      refine ⟨_, rfl, p, _, dx, _, _, rfl, hp, T.lPour, T.nPour_a, lk1, _, rfl, p, _, dx, _, _, rfl, hp, T.lPour, T.nPour_b, lk2 (by decide +kernel), rfl, _, rfl, ifF (decide_eq_false fun z => ok.2.2 (by injection z with z; omega)) ?_⟩
      exact ⟨_, rfl, .ref p, .ref T.cChange, _, _, _, rfl, .own _, ty, T.iPour_Change, _, rfl, ifF rfl (ifF rfl hq)⟩
    | change a b =>
      refine ifF rfl ⟨_, rfl, .ref p, .ref T.cDraw, _, _, _, rfl, .own _, ty, T.iChange_Draw, _, rfl, ifF rfl ?_⟩
      refine ⟨_, rfl, _, rfl, p, _, dx, _, _, rfl, hp, T.lChange, T.nChange_b, lk2 (by decide +kernel), j, caps, b, rfl, ⟨jx, t, e1, e2⟩, ok.2.1, ?_⟩
      refine ⟨_, rfl, p, _, dx, _, _, rfl, hp, T.lChange, T.nChange_a, lk1, _, rfl, p, _, dx, _, _, rfl, hp, T.lChange, T.nChange_b, lk2 (by decide +kernel), rfl, _, rfl, ifF (decide_eq_false fun z => ok.2.2.1 (by injection z with z; omega)) ?_⟩
      refine ⟨_, rfl, .ref p, .ref T.cChange, _, _, _, rfl, .own _, ty, T.iChange_Change, _, rfl, ifT rfl ?_⟩
      refine ⟨_, rfl, j, _, jx, _, _, rfl, e1, T.lJars, T.nJars_sizes, lk1, _, rfl, p, _, dx, _, _, rfl, hp, T.lChange, T.nChange_a, lk1, t, _, _, _, rfl, rfl, SqT.of e2, vi_at ok.1, ?_⟩
      refine ⟨_, rfl, j, _, jx, _, _, rfl, e1, T.lJars, T.nJars_sizes, lk1, _, rfl, p, _, dx, _, _, rfl, hp, T.lChange, T.nChange_b, lk2 (by decide +kernel), t, _, _, _, rfl, rfl, SqT.of e2, vi_at ok.2.1, ?_⟩
      exact ⟨rfl, _, rfl, iteNS (congrArg V.int ok.2.2.2) hq⟩
theorem okJarsInit (T : Tx K mg) : FnOk P w K mg base CX0 2 T.aJarsInit T.dJarsInit ["self", "sizes"] (spJarsInit T) := by
  refine T.fJarsInit.ok scJarsInit (fun vs H Q E h => ?_) (fun cdv A outer s H vs Q E hr h => ?_)
  · obtain ⟨p, dx, a, caps, rfl, _⟩ := h
    rfl
  · obtain ⟨p, dx, a, caps, rfl, hp, hS, hC, hq⟩ := h
    have c1 := hC.l1
    have c6 := hC.l6
    refine ⟨_, (pss_cons (ps_if (pt_not (pt_chain op_le op_le pe_int (pe_callB call_len_seq rfl T.nlen PySem.boot_len (pa_cons (pv 1) pa_nil)) (pe_glob (v := .int 6) rfl T.cMOSTJARS ⟨_, rfl⟩))) (pss_one ps_never) pss_nil)
      (pss_cons (ps_for PassesOwn.never rfl (pi_list (pv 1)) (pg_name (i := 2) scJarsInit.nd rfl (by first | exact Or.inl rfl | exact Or.inr rfl)) (pss_one (ps_expr (pe_call (okcheckmuch T) (hr.mono (by decide)) rfl T.gcheckmuch T.fcheckmuch.kp T.bcheckmuch .nil pass0 (pa_cons pe_str (pa_cons (pv 2) pa_nil))))))
      (pss_one (ps_fld (pv 0) (pe_callTy call_tuple_of rfl T.ntuple (by decide +kernel) (pa_cons (pv 1) pa_nil)) rfl)))), ?_⟩
    refine ⟨_, rfl, a, _, rfl, .inl hS, 1, _, rfl, rfl, _, rfl, ifT (decide_eq_true (by rw [List.length_map]; omega)) ?_⟩
    refine ⟨_, _, rfl, rfl, _, rfl, iteNS (by rw [List.length_map]; omega) ?_⟩
    refine ⟨_, rfl, a, rfl, ⟨_, hS⟩, for_list (K := K) (a := a) (xs := vi caps) (fun i σ H' => ∃ v : Option V, σ = [some (.ref p), some (.ref a), v] ∧ H' = H) ⟨none, rfl, rfl⟩ (fun i σ H' _ ⟨_, _, e⟩ => by rw [e]; exact hS) ?_ ?_⟩
    · rintro i y σ H' hi ⟨v, rfl, rfl⟩
      obtain ⟨z, hz, rfl⟩ := vi_get hi
      have lt : i < caps.length := (List.getElem?_eq_some_iff.mp hz).1
      have ez := at0_of hz
      refine ⟨_, rfl, "size", z, rfl, ?_, ?_, some (.int z), rfl, rfl⟩
      · rw [← ez]; exact hC.lo i lt
      · rw [← ez]; exact hC.hi i lt
    · rintro σ H' ⟨v, rfl, rfl⟩
      refine ⟨_, rfl, a, _, rfl, .inl ⟨hS, fun t ht => ?_⟩⟩
      have n : p ≠ t := ne_of_none hp ht
      refine ⟨_, rfl, p, _, dx, _, rfl, (by rw [upd_ne n]; exact hp), T.lJars, T.nJars_sizes, (by show 0 < 1000; decide), ?_⟩
      refine hq _ ⟨dx, t, upd_same, by rw [upd_ne n.symm]; exact upd_same⟩ (fr_mut (fr_new (Fr.refl _ _) ht))
theorem okRowInit (T : Tx K mg) : FnOk P w K mg base CX0 3 T.aRowInit T.dRowInit ["self", "jars", "deeds"] (spRowInit T) := by
  refine T.fRowInit.ok scRowInit (fun vs H Q E h => ?_) (fun cdv A outer s H vs Q E hr h => ?_)
  · obtain ⟨p, dx, j, a, caps, us, ds, rfl, _⟩ := h
    rfl
  · obtain ⟨p, dx, j, a, caps, us, ds, rfl, hp, hJ, hS, hA, hl, ok, hq⟩ := h
    refine ⟨_, (pss_cons (ps_if (pt_cmpR op_gt (pe_callB call_len_seq rfl T.nlen PySem.boot_len (pa_cons (pv 2) pa_nil)) (pe_glob (v := .int 20) rfl T.cMOSTDEEDS ⟨_, rfl⟩) (nomark _)) (pss_one ps_never) pss_nil)
      (pss_cons (ps_for PassesOwn.never rfl (pi_list (pv 2)) (pg_name (i := 3) scRowInit.nd rfl (by first | exact Or.inl rfl | exact Or.inr rfl)) (pss_one (ps_expr (pe_call (okcheckdeed T) (hr.mono (by decide)) rfl T.gcheckdeed T.fcheckdeed.kp T.bcheckdeed .nil pass0 (pa_cons (pv 1) (pa_cons (pv 3) pa_nil))))))
      (pss_cons (ps_fld (pv 0) (pv 1) rfl)
      (pss_one (ps_fld (pv 0) (pe_callTy call_tuple_of rfl T.ntuple (by decide +kernel) (pa_cons (pv 2) pa_nil)) rfl))))), ?_⟩
    refine ⟨_, rfl, a, _, rfl, .inl (SqL.of hS), _, _, rfl, rfl, _, rfl, ifF (decide_eq_false (by rw [hA.len]; omega)) ?_⟩
    refine ⟨_, rfl, a, rfl, ⟨_, SqL.of hS⟩, for_list (K := K) (a := a) (xs := us) (fun i σ H' => ∃ v : Option V, σ = [some (.ref p), some (.ref j), some (.ref a), v] ∧ H' = H) ⟨none, rfl, rfl⟩ (fun i σ H' _ ⟨_, _, e⟩ => by rw [e]; exact SqL.of hS) ?_ ?_⟩
    · rintro i y σ H' hi ⟨v, rfl, rfl⟩
      obtain ⟨d, hd, hv⟩ := hA.get hi
      exact ⟨_, rfl, _, rfl, j, caps, y, d, rfl, hJ, hv, ok d (List.mem_of_getElem? hd), some y, rfl, rfl⟩
    · rintro σ H' ⟨v, rfl, rfl⟩
      refine ⟨_, rfl, _, rfl, p, _, dx, _, rfl, hp, T.lRow, T.nRow_jars, (by show 0 < 1000; decide), ?_⟩
      have f1 : Fr p H' (upd H' p (.ins T.cRow dx (putF "jars" (.ref j) []))) := fr_mut (Fr.refl _ _)
      have na : a ≠ p := ne_of hS hp (by intro z; cases z)
      refine ⟨_, rfl, a, _, rfl, .inl ⟨f1.sqL na (SqL.of hS), fun t ht => ?_⟩⟩
      have n : p ≠ t := fun z => by rw [← z, upd_same] at ht; cases ht
      have ht0 : H' t = none := fr_free f1 n.symm ht
      refine ⟨_, rfl, p, _, dx, _, rfl, (by rw [upd_ne n]; exact upd_same), T.lRow, T.nRow_deeds, (by show 1 < 1000; decide), ?_⟩
      have fr : Fr p H' (upd (upd (upd H' p (.ins T.cRow dx (putF "jars" (.ref j) []))) t (.tup us)) p (.ins T.cRow dx (putF "deeds" (.ref t) (putF "jars" (.ref j) [])))) := fr_mut (fr_new f1 ht0)
      refine hq _ ⟨dx, j, t, us, ?_, ?_, ?_, ?_⟩ fr
      · rw [upd_same, put2 (by decide +kernel)]
        rfl
      · exact hJ.fr fr hp bl_i
      · rw [upd_ne n.symm]; exact upd_same
      · exact A2.mono (fun _ _ q => q.fr fr hp bl_i) hA
end
end Kp

namespace Kp
open PySem PySem.Spec PyProof.Rows L2 KpR
theorem made_same {H H' : Hp} {x dx : Addr} {o1 o2 : HO} (hx : H x = none) (hdx : H dx = none) (fr : Fr x (upd (upd H dx o1) x o2) H') : Same H H' := fun b o e => by
  have n1 := ne_of_none e hx
  have n2 := ne_of_none e hdx
  exact fr b o n1 (by rw [upd_ne n1, upd_ne n2]; exact e)
def f4s (a : Str) (x : V) (b : Str) (y : V) (c : Str) (z : V) (d : Str) (w : V) : List (Str × V) := [(a, x), (b, y), (c, z), (d, w)]
def fts (d : V) (g : V) (l : V) (x : V) (y : V) : List (Str × V) := [("deed", d), ("group", g), ("limit", l), ("first", x), ("second", y)]
theorem nb4 {C dx : Addr} {a b c d : Str} {x y z w : V} : ¬ Blank (.ins C dx (f4s a x b y c z d w)) := nbI (fun z => by cases z) fun _ _ _ z => by simp [f4s, fgs] at z
theorem nbt {C dx : Addr} {d g l x y : V} : ¬ Blank (.ins C dx (fts d g l x y)) := nbI (fun z => by cases z) fun _ _ _ z => by simp [fts, fgs] at z
section
variable {K : PySem.W.Frag} {mg : Str → Option Value}
def ShAt (T : Tx K mg) (H : Hp) (v : V) (s : Sh) : Prop := ∃ p dx t, v = .ref p ∧ H p = some (.ins T.cShare dx (f4s "group" (.ref t) "more" (.int s.more) "low" (.int s.low) "high" (.int s.high))) ∧ H t = some (.tup (vi s.g))
theorem ShAt.same {T : Tx K mg} {H H' : Hp} {v : V} {s : Sh} (e : Same H H') (h : ShAt T H v s) : ShAt T H' v s := by
  obtain ⟨p, dx, t, rfl, h1, h2⟩ := h
  exact ⟨p, dx, t, rfl, e _ _ h1, e _ _ h2⟩
theorem ShAt.fr {T : Tx K mg} {w : Addr} {H H' : Hp} {u : HO} {v : V} {s : Sh} (e : Fr w H H') (hw : H w = some u) (hb : Blank u) (h : ShAt T H v s) : ShAt T H' v s := by
  obtain ⟨p, dx, t, rfl, h1, h2⟩ := h
  exact ⟨p, dx, t, rfl, fr_no e hw hb h1 nb4, fr_no e hw hb h2 nbT⟩
def ShsAt (T : Tx K mg) (H : Hp) (a : Addr) (l : List Sh) : Prop := ∃ us, H a = some (.lst us) ∧ A2 (ShAt T H) us l
theorem ShsAt.same {T : Tx K mg} {H H' : Hp} {a : Addr} {l : List Sh} (e : Same H H') (h : ShsAt T H a l) : ShsAt T H' a l := by
  obtain ⟨us, h1, h2⟩ := h
  exact ⟨us, e _ _ h1, A2.mono (fun _ _ q => q.same e) h2⟩
theorem ShsAt.fr {T : Tx K mg} {w a : Addr} {H H' : Hp} {u : HO} {l : List Sh} (e : Fr w H H') (hw : H w = some u) (hb : Blank u) (n : a ≠ w) (h : ShsAt T H a l) : ShsAt T H' a l := by
  obtain ⟨us, h1, h2⟩ := h
  exact ⟨us, e _ _ n h1, A2.mono (fun _ _ q => q.fr e hw hb) h2⟩
def spShareInit (T : Tx K mg) : Sp := fun vs H Q _ => ∃ (p dx : Addr) (u v w z : V), vs = [.ref p, u, v, w, z] ∧ H p = some (.ins T.cShare dx []) ∧
  ∀ H', H' p = some (.ins T.cShare dx (f4s "group" u "more" v "low" w "high" z)) → Fr p H H' → Q .non H'
theorem mkShare {T : Tx K mg} {H1 : Hp} {t x dx : Addr} {g : List Int} {m l h : Int} {R : Hp → Prop} {E : XK} (ht : H1 t = some (.tup (vi g))) (hx : H1 x = none) (hdx : H1 dx = none) (hq : ∀ H', ShAt T H' (.ref x) ⟨g, m, l, h⟩ → Same H1 H' → R H') :
    spShareInit T [.ref x, .ref t, .int m, .int l, .int h] (upd (upd H1 dx (.own x)) x (.ins T.cShare dx [])) (fun v H2 => v = .non ∧ R H2) E :=
  ⟨x, dx, _, _, _, _, rfl, upd_same, fun H' h' fr => ⟨rfl, by
    have sm := made_same hx hdx fr
    exact hq H' ⟨x, dx, t, rfl, h', sm _ _ ht⟩ sm⟩⟩
def spfirstshares (T : Tx K mg) : Sp := fun vs H Q _ => ∃ (j : Addr) (caps : List Int), vs = [.ref j] ∧ JarsAt T H j caps ∧ caps.length ≤ 6 ∧
  ∀ (H' : Hp) (q : Addr), H q = none → ShsAt T H' q (firstShares caps) → Same H H' → Q (.ref q) H'
def spofnojar (T : Tx K mg) : Sp := fun vs H Q _ => ∃ m : Int, vs = [.int m] ∧ ∀ (H' : Hp) (q : V), ShAt T H' q (Sh.none m) → Same H H' → Q q H'
def sptogether (T : Tx K mg) : Sp := fun vs H Q _ => ∃ (x y : V) (s t : Sh), vs = [x, y] ∧ ShAt T H x s ∧ ShAt T H y t ∧ s.g.length + t.g.length ≤ 6 ∧ ∀ (H' : Hp) (q : V), ShAt T H' q (s.tog t) → Same H H' → Q q H'
def spatmost (T : Tx K mg) : Sp := fun vs H Q _ => ∃ (x : V) (s : Sh) (l a : Int), vs = [x, .int l, .int a] ∧ ShAt T H x s ∧ ∀ (H' : Hp) (q : V), ShAt T H' q (s.atMost l a) → Same H H' → Q q H'
def spatleast (T : Tx K mg) : Sp := fun vs H Q _ => ∃ (x : V) (s : Sh) (l a : Int), vs = [x, .int l, .int a] ∧ ShAt T H x s ∧ ∀ (H' : Hp) (q : V), ShAt T H' q (s.atLeast l a) → Same H H' → Q q H'
def sptested (T : Tx K mg) : Sp := fun vs H Q _ => ∃ (a : Addr) (v : V) (d : D) (caps : List Int) (l : List Sh), vs = [v, .ref a] ∧ DeedAt T H v d ∧ d.ok caps ∧ ShsAt T H a l ∧ Shs caps l ∧
  ∀ (H' : Hp) (q : V), ShAt T H' q (d.share l) → Same H H' → Q q H'
/-- what a deed, jars and shares are handed to -/
def spJDS (T : Tx K mg) (R : List Int → D → List Sh → Hp → VK → Prop) : Sp := fun vs H Q _ => ∃ (j a : Addr) (v : V) (d : D) (caps : List Int) (l : List Sh), vs = [.ref j, v, .ref a] ∧ JarsAt T H j caps ∧ DeedAt T H v d ∧ d.ok caps ∧ ShsAt T H a l ∧ Shs caps l ∧ R caps d l H Q
def splimitof (T : Tx K mg) : Sp := spJDS T fun caps d l H Q => d.ischange = false ∧ ∀ H', Same H H' → Q (.int (d.limit caps l)) H'
def spfirstway (T : Tx K mg) : Sp := spJDS T fun caps d l H Q => d.ischange = false ∧ ∀ (H' : Hp) (q : Addr), H q = none → ShsAt T H' q (d.way1 caps l) → Same H H' → Q (.ref q) H'
def spsecondway (T : Tx K mg) : Sp := spJDS T fun caps d l H Q => d.ischange = false ∧ ∀ (H' : Hp) (q : Addr), H q = none → ShsAt T H' q (d.way2 caps l) → Same H H' → Q (.ref q) H'
def spischoice (T : Tx K mg) : Sp := spJDS T fun caps d l H Q => ∀ H', Same H H' → Q (.bl (d.choice caps l)) H'
def sponlyway (T : Tx K mg) : Sp := spJDS T fun caps d l H Q => ∀ (H' : Hp) (q : Addr), H q = none → ShsAt T H' q (d.only caps l) → Same H H' → Q (.ref q) H'
end
section
variable {P : Program} {w : World} {K : PySem.W.Frag} {mg : Str → Option Value} {base : Heap}
theorem okShareInit (T : Tx K mg) : FnOk P w K mg base CX0 1 T.aShareInit T.dShareInit ["self", "group", "more", "low", "high"] (spShareInit T) := by
  refine T.fShareInit.ok scShareInit (fun vs H Q E h => ?_) (fun cdv A outer s H vs Q E hr h => ?_)
  · obtain ⟨p, dx, u, v, w, z, rfl, _⟩ := h
    rfl
  · obtain ⟨p, dx, u, v, w, z, rfl, hp, hq⟩ := h
    refine ⟨_, (pss_cons (ps_fld (pv 0) (pv 1) rfl)
      (pss_cons (ps_fld (pv 0) (pv 2) rfl)
      (pss_cons (ps_fld (pv 0) (pv 3) rfl)
      (pss_one (ps_fld (pv 0) (pv 4) rfl))))), ?_⟩
    refine ⟨_, rfl, _, rfl, p, _, dx, _, rfl, hp, T.lShare, T.nShare_group, (by show 0 < 1000; decide), ?_⟩
    refine ⟨_, rfl, _, rfl, p, _, dx, _, rfl, upd_same, T.lShare, T.nShare_more, (by show 1 < 1000; decide), ?_⟩
    refine ⟨_, rfl, _, rfl, p, _, dx, _, rfl, upd_same, T.lShare, T.nShare_low, (by show 2 < 1000; decide), ?_⟩
    refine ⟨_, rfl, _, rfl, p, _, dx, _, rfl, upd_same, T.lShare, T.nShare_high, (by show 3 < 1000; decide), ?_⟩
    refine hq _ ?_ (fr_mut (fr_mut (fr_mut (fr_mut (Fr.refl _ _)))))
    rw [upd_same]
    rfl
theorem okofnojar (T : Tx K mg) : FnOk P w K mg base CX0 3 T.aofnojar T.dofnojar ["more"] (spofnojar T) := by
  refine T.fofnojar.ok scofnojar (fun vs H Q E h => ?_) (fun cdv A outer s H vs Q E hr h => ?_)
  · obtain ⟨m, rfl, _⟩ := h
    rfl
  · obtain ⟨m, rfl, hq⟩ := h
    refine ⟨_, (pss_one (ps_ret (pe_make T.kShare (okShareInit T) (hr.mono (by decide)) rfl T.mShare T.bShareInit .nil pass0 (pa_cons (pe_tup pa_nil) (pa_cons (pv 0) (pa_cons pe_int (pa_cons pe_int pa_nil))))))), ?_⟩
    refine ⟨(by show 0 ≤ sizeLine; decide), fun t ht => ⟨_, rfl, fun x dx hx hdx _ => mkShare (g := []) upd_same hx hdx fun H' h s => hq H' _ h ((same_new ht).trans s)⟩⟩
theorem oktogether (T : Tx K mg) : FnOk P w K mg base CX0 3 T.atogether T.dtogether ["share", "other"] (sptogether T) := by
  refine T.ftogether.ok sctogether (fun vs H Q E h => ?_) (fun cdv A outer s H vs Q E hr h => ?_)
  · obtain ⟨x, y, s, t, rfl, _⟩ := h
    rfl
  · obtain ⟨x, y, s, t, rfl, hs, ht, hl, hq⟩ := h
    refine ⟨_, (pss_cons (ps_set (i := 2) sctogether.nd rfl (by first | exact Or.inl rfl | exact Or.inr rfl) (pe_callTy call_tuple_of rfl T.ntuple (by decide +kernel) (pa_cons (pe_callB cr_srt rfl T.nsorted (by decide +kernel) (pa_cons (pe_op op_catS (pe_fld (pv 0) rfl) (pe_fld (pv 1) rfl)) pa_nil)) pa_nil)))
      (pss_one (ps_ret (pe_make T.kShare (okShareInit T) (hr.mono (by decide)) rfl T.mShare T.bShareInit .nil pass0 (pa_cons (pv 2) (pa_cons (pe_op op_add (pe_fld (pv 0) rfl) (pe_fld (pv 1) rfl)) (pa_cons (pe_op op_add (pe_fld (pv 0) rfl) (pe_fld (pv 1) rfl)) (pa_cons (pe_op op_add (pe_fld (pv 0) rfl) (pe_fld (pv 1) rfl)) pa_nil)))))))), ?_⟩
    obtain ⟨p, dx, g, rfl, p1, p2⟩ := hs
    obtain ⟨p', dx', g', rfl, q1, q2⟩ := ht
    have l1 : (vi s.g).length = s.g.length := List.length_map ..
    have l2 : (vi t.g).length = t.g.length := List.length_map ..
    refine ⟨_, rfl, p, _, dx, _, _, rfl, p1, T.lShare, T.nShare_group, lk1, _, rfl, p', _, dx', _, _, rfl, q1, T.lShare, T.nShare_group, lk1, g, g', _, _, rfl, rfl, p2, q2, Nat.le_of_lt (small1000 (by omega)), fun c H1 s1 hc => ?_⟩
    have ec : vi s.g ++ vi t.g = vi (s.g ++ t.g) := (List.map_append ..).symm
    rw [ec] at hc
    refine ⟨c, s.g ++ t.g, rfl, .inr (SqT.of hc), by rw [List.length_append]; omega, fun ns r pe pw hr0 => ?_⟩
    obtain rfl := srtI_of pe pw
    have s2 := s1.trans (same_new (o := .lst (vi (srtI (s.g ++ t.g)))) hr0)
    refine ⟨r, _, rfl, .inl ⟨SqL.of upd_same, fun c2 hc2 => ?_⟩⟩
    have s3 := s2.trans (same_new (o := .tup (vi (srtI (s.g ++ t.g)))) hc2)
    have h3 : (upd (upd H1 r (.lst (vi (srtI (s.g ++ t.g))))) c2 (.tup (vi (srtI (s.g ++ t.g))))) c2 = some (.tup (vi (srtI (s.g ++ t.g)))) := upd_same
    show _
    generalize hH3 : upd (upd H1 r (.lst (List.map V.int (srtI (s.g ++ t.g))))) c2 (.tup (List.map V.int (srtI (s.g ++ t.g)))) = H3
    have s3 : Same H H3 := by rw [← hH3]; exact s3
    have h3 : H3 c2 = some (.tup (vi (srtI (s.g ++ t.g)))) := by rw [← hH3]; exact h3
    refine ⟨_, rfl, ?_⟩
    refine ⟨_, rfl, p, _, dx, _, _, rfl, s3 _ _ p1, T.lShare, T.nShare_more, lk2 (by decide +kernel), _, rfl, p', _, dx', _, _, rfl, s3 _ _ q1, T.lShare, T.nShare_more, lk2 (by decide +kernel), _, _, rfl, rfl, ?_⟩
    refine ⟨_, rfl, p, _, dx, _, _, rfl, s3 _ _ p1, T.lShare, T.nShare_low, lk3 (by decide +kernel) (by decide +kernel), _, rfl, p', _, dx', _, _, rfl, s3 _ _ q1, T.lShare, T.nShare_low, lk3 (by decide +kernel) (by decide +kernel), _, _, rfl, rfl, ?_⟩
    refine ⟨_, rfl, p, _, dx, _, _, rfl, s3 _ _ p1, T.lShare, T.nShare_high, lk4 (by decide +kernel) (by decide +kernel) (by decide +kernel), _, rfl, p', _, dx', _, _, rfl, s3 _ _ q1, T.lShare, T.nShare_high, lk4 (by decide +kernel) (by decide +kernel) (by decide +kernel), _, _, rfl, rfl, ?_⟩
    exact fun x dx hx hdx _ => mkShare h3 hx hdx fun H' h s => hq H' _ h (s3.trans s)
theorem okatmost (T : Tx K mg) : FnOk P w K mg base CX0 3 T.aatmost T.datmost ["share", "limit", "added"] (spatmost T) := by
  refine T.fatmost.ok scatmost (fun vs H Q E h => ?_) (fun cdv A outer s H vs Q E hr h => ?_)
  · obtain ⟨x, s, l, a, rfl, _⟩ := h
    rfl
  · obtain ⟨x, s, l, a, rfl, hs, hq⟩ := h
    refine ⟨_, (pss_one (ps_ret (pe_make T.kShare (okShareInit T) (hr.mono (by decide)) rfl T.mShare T.bShareInit .nil pass0 (pa_cons (pe_fld (pv 0) rfl) (pa_cons (pe_op op_add (pe_fld (pv 0) rfl) (pv 2)) (pa_cons (pe_fld (pv 0) rfl) (pa_cons (pe_callB (call_min2 rfl) rfl T.nmin (by decide +kernel) (pa_cons (pe_fld (pv 0) rfl) (pa_cons (pv 1) pa_nil))) pa_nil))))))), ?_⟩
    obtain ⟨p, dx, g, rfl, p1, p2⟩ := hs
    refine ⟨_, rfl, p, _, dx, _, _, rfl, p1, T.lShare, T.nShare_group, lk1, _, rfl, p, _, dx, _, _, rfl, p1, T.lShare, T.nShare_more, lk2 (by decide +kernel), _, rfl, _, _, rfl, rfl, ?_⟩
    refine ⟨_, rfl, p, _, dx, _, _, rfl, p1, T.lShare, T.nShare_low, lk3 (by decide +kernel) (by decide +kernel), ?_⟩
    refine ⟨_, rfl, p, _, dx, _, _, rfl, p1, T.lShare, T.nShare_high, lk4 (by decide +kernel) (by decide +kernel) (by decide +kernel), _, rfl, _, _, rfl, ?_⟩
    exact fun x dx hx hdx _ => mkShare p2 hx hdx fun H' h s => hq H' _ h s
theorem okatleast (T : Tx K mg) : FnOk P w K mg base CX0 3 T.aatleast T.datleast ["share", "limit", "added"] (spatleast T) := by
  refine T.fatleast.ok scatleast (fun vs H Q E h => ?_) (fun cdv A outer s H vs Q E hr h => ?_)
  · obtain ⟨x, s, l, a, rfl, _⟩ := h
    rfl
  · obtain ⟨x, s, l, a, rfl, hs, hq⟩ := h
    refine ⟨_, (pss_one (ps_ret (pe_make T.kShare (okShareInit T) (hr.mono (by decide)) rfl T.mShare T.bShareInit .nil pass0 (pa_cons (pe_fld (pv 0) rfl) (pa_cons (pe_op op_add (pe_fld (pv 0) rfl) (pv 2)) (pa_cons (pe_callB (call_max2 rfl) rfl T.nmax (by decide +kernel) (pa_cons (pe_fld (pv 0) rfl) (pa_cons (pv 1) pa_nil))) (pa_cons (pe_fld (pv 0) rfl) pa_nil))))))), ?_⟩
    obtain ⟨p, dx, g, rfl, p1, p2⟩ := hs
    refine ⟨_, rfl, p, _, dx, _, _, rfl, p1, T.lShare, T.nShare_group, lk1, _, rfl, p, _, dx, _, _, rfl, p1, T.lShare, T.nShare_more, lk2 (by decide +kernel), _, rfl, _, _, rfl, rfl, ?_⟩
    refine ⟨_, rfl, p, _, dx, _, _, rfl, p1, T.lShare, T.nShare_low, lk3 (by decide +kernel) (by decide +kernel), _, rfl, _, _, rfl, ?_⟩
    refine ⟨_, rfl, p, _, dx, _, _, rfl, p1, T.lShare, T.nShare_high, lk4 (by decide +kernel) (by decide +kernel) (by decide +kernel), ?_⟩
    exact fun x dx hx hdx _ => mkShare p2 hx hdx fun H' h s => hq H' _ h s
theorem okfirstshares (T : Tx K mg) : FnOk P w K mg base CX0 3 T.afirstshares T.dfirstshares ["jars"] (spfirstshares T) := by
  refine T.ffirstshares.ok scfirstshares (fun vs H Q E h => ?_) (fun cdv A outer s H vs Q E hr h => ?_)
  · obtain ⟨j, caps, rfl, _⟩ := h
    rfl
  · obtain ⟨j, caps, rfl, ⟨dx, t, e1, e2⟩, l6, hq⟩ := h
    refine ⟨_, (pss_one (ps_ret (pe_lc (own := [("jar", 1), ("size", 2)]) (g := gTup K 2 (gCons (gName 1) (gCons (gName 2) gNil))) rfl scfirstshares.nd (pi_enumT rfl T.nenumerate (pa_cons (pe_fld (pv 0) rfl) pa_nil)) (blkOk_by (own := [("jar", 1), ("size", 2)]) (N := ["jars", "jar", "size"]) (sc := defScope sfirstshares) (by decide +kernel)) (fun _ _ _ _ _ => (pg_tup rfl (pgs_cons (pg_name (i := 1) scfirstshares.nd rfl (by first | exact Or.inl rfl | exact Or.inr rfl)) (pgs_cons (pg_name (i := 2) scfirstshares.nd rfl (by first | exact Or.inl rfl | exact Or.inr rfl)) pgs_nil)))) (fun _ _ _ _ _ => pts_nil) (fun _ _ _ _ _ => (pe_make T.kShare (okShareInit T) (hr.mono (by decide)) rfl T.mShare T.bShareInit .nil pass0 (pa_cons (pe_tup (pa_cons (pv 1) pa_nil)) (pa_cons pe_int (pa_cons pe_int (pa_cons (pv 2) pa_nil))))))))), ?_⟩
    refine ⟨_, rfl, j, _, dx, _, _, rfl, e1, T.lJars, T.nJars_sizes, lk1, t, _, rfl, SqT.of e2, fun D hD => ?_⟩
    refine lc_enumT (K := K) (a := t) (xs := vi caps) (fun i H' => ∃ us, H' D = some (.lst us) ∧ A2 (ShAt T H') us ((firstShares caps).take i) ∧ Same H H') ⟨[], upd_same, trivial, same_new hD⟩ (fun i H' _ ⟨_, _, _, s⟩ => sameT s (SqT.of e2)) ?_ ?_
    · rintro i x T1 H1 hi ⟨us, d1, d2, d3⟩ hT1
      obtain ⟨z, hz, rfl⟩ := vi_get hi
      have lt : i < caps.length := (List.getElem?_eq_some_iff.mp hz).1
      have s1 := same_new (o := .tup [V.int (i : Nat), V.int z]) hT1
      refine ⟨T1, _, rfl, SqT.of upd_same, rfl, _, _, rfl, _, _, rfl, rfl, rfl, ?_⟩
      refine ⟨_, rfl, (by show 1 ≤ sizeLine; decide), fun t2 ht2 => ⟨_, rfl, fun x dx hx hdx _ => mkShare (g := [(i : Int)]) upd_same hx hdx fun H4 h4 s4 => ?_⟩⟩
      have s2 := (s1.trans (same_new (o := .tup [V.int (i : Nat)]) ht2)).trans s4
      have f : Fr D H4 (upd H4 D (.lst (us ++ [.ref x]))) := fr_mut (Fr.refl _ _)
      have ul : us.length ≤ 6 := by rw [d2.len, List.length_take, firstShares_len]; omega
      refine ⟨us, s2 _ _ d1, small1000 (by omega), us ++ [.ref x], upd_same, ?_, same_mut (d3.trans s2) hD⟩
      have e : (firstShares caps).take (i + 1) = (firstShares caps).take i ++ [⟨[(i : Int)], 0, 0, z⟩] := by
        rw [List.take_add_one]
        congr 1
        unfold firstShares
        rw [List.getElem?_map, List.getElem?_range lt, ← at0_of hz]
        rfl
      rw [e]
      exact A2.app (A2.mono (fun _ _ q => (q.same s2).fr f (s2 _ _ d1) bl_l) d2) ⟨h4.fr f (s2 _ _ d1) bl_l, trivial⟩
    · rintro H' ⟨us, d1, d2, d3⟩
      rw [List.take_of_length_le (by rw [firstShares_len]; exact Nat.le_of_eq (List.length_map ..).symm)] at d2
      exact hq H' D hD ⟨us, d1, d2⟩ d3
theorem oktested (T : Tx K mg) : FnOk P w K mg base CX0 4 T.atested T.dtested ["deed", "shares"] (sptested T) := by
  refine T.ftested.ok sctested (fun vs H Q E h => ?_) (fun cdv A outer s H vs Q E hr h => ?_)
  · obtain ⟨a, v, d, caps, l, rfl, _⟩ := h
    rfl
  · obtain ⟨a, v, d, caps, l, rfl, hD, ok, ⟨us, u1, u2⟩, hS, hq⟩ := h
    refine ⟨_, (pss_cons (ps_if (pt_val (pe_callB call_isi rfl T.nisinstance (by decide +kernel) (pa_cons (pv 0) (pa_cons (pe_glob (v := .ref T.cPour) rfl T.mPour rfl) pa_nil)))) (pss_one (ps_ret (pe_call (oktogether T) (hr.mono (by decide)) rfl T.gtogether T.ftogether.kp T.btogether .nil pass0 (pa_cons (pe_ix (r := rIxL K) ix_list (pv 1) (pe_fld (pv 0) rfl) (fun _ _ => rfl)) (pa_cons (pe_ix (r := rIxL K) ix_list (pv 1) (pe_fld (pv 0) rfl) (fun _ _ => rfl)) pa_nil))))) pss_nil)
      (pss_one (ps_ret (pe_ix (r := rIxL K) ix_list (pv 1) (pe_fld (pv 0) rfl) (fun _ _ => rfl))))), ?_⟩
    obtain ⟨p, dx, rfl, hp⟩ := deed_at hD
    have ty := ty_deed hp
    have ha : d.fst < l.length := by rw [hS.len]; cases d <;> exact ok.1
    have at_ : ∀ i, i < l.length → ∃ x, atI us (i : Int) = some x ∧ ShAt T H x (atS l i) := fun i hi => by
      obtain ⟨x, x1, _, x2⟩ := A2at u2 (atS_get hi)
      exact ⟨x, x1, x2⟩
    obtain ⟨x, x1, x2⟩ := at_ _ ha
    refine ⟨_, rfl, .ref p, .ref T.cPour, _, _, _, rfl, .own _, ty, is_pour T d, _, rfl, ?_⟩
    cases d with
    | pour i k =>
      obtain ⟨y, y1, y2⟩ := at_ k (by rw [hS.len]; exact ok.2.1)
      refine ifT rfl ?_
      refine ⟨_, rfl, _, rfl, p, _, dx, _, _, rfl, hp, T.lPour, T.nPour_a, lk1, a, _, _, _, rfl, rfl, SqL.of u1, x1, ?_⟩
      refine ⟨_, rfl, _, rfl, p, _, dx, _, _, rfl, hp, T.lPour, T.nPour_b, lk2 (by decide +kernel), a, _, _, _, rfl, rfl, SqL.of u1, y1, ?_⟩
      exact ⟨_, _, _, _, rfl, x2, y2, Nat.le_trans (glen_two (by rw [hS.len]; exact ok.1) (by rw [hS.len]; exact ok.2.1) ok.2.2) hS.few, hq⟩
    | put i k => exact ifF rfl ⟨_, rfl, _, rfl, p, _, dx, _, _, rfl, hp, T.lPut, T.nPut_a, lk1, a, _, _, _, rfl, rfl, SqL.of u1, x1, hq _ _ x2 (Same.refl _)⟩
    | draw i k => exact ifF rfl ⟨_, rfl, _, rfl, p, _, dx, _, _, rfl, hp, T.lDraw, T.nDraw_a, lk1, a, _, _, _, rfl, rfl, SqL.of u1, x1, hq _ _ x2 (Same.refl _)⟩
    | change i k => exact ifF rfl ⟨_, rfl, _, rfl, p, _, dx, _, _, rfl, hp, T.lChange, T.nChange_a, lk1, a, _, _, _, rfl, rfl, SqL.of u1, x1, hq _ _ x2 (Same.refl _)⟩
theorem oklimitof (T : Tx K mg) : FnOk P w K mg base CX0 5 T.alimitof T.dlimitof ["jars", "deed", "shares"] (splimitof T) := by
  refine T.flimitof.ok sclimitof (fun vs H Q E h => ?_) (fun cdv A outer s H vs Q E hr h => ?_)
  · obtain ⟨j, a, v, d, caps, l, rfl, _⟩ := h
    rfl
  · obtain ⟨j, a, v, d, caps, l, rfl, hJ, hD, ok, hA, hS, nc, hq⟩ := h
    refine ⟨_, (pss_cons (ps_set (i := 3) sclimitof.nd rfl (by first | exact Or.inl rfl | exact Or.inr rfl) (pe_fld (pe_call (oktested T) (hr.mono (by decide)) rfl T.gtested T.ftested.kp T.btested .nil pass0 (pa_cons (pv 1) (pa_cons (pv 2) pa_nil))) rfl))
      (pss_cons (ps_if (pt_val (pe_callB call_isi rfl T.nisinstance (by decide +kernel) (pa_cons (pv 1) (pa_cons (pe_glob (v := .ref T.cPour) rfl T.mPour rfl) pa_nil)))) (pss_one (ps_ret (pe_op op_sub (pe_ix (r := rIxT K) ix_tup (pe_fld (pv 0) rfl) (pe_fld (pv 1) rfl) (fun _ _ => rfl)) (pv 3)))) pss_nil)
      (pss_cons (ps_if (pt_val (pe_callB call_isi rfl T.nisinstance (by decide +kernel) (pa_cons (pv 1) (pa_cons (pe_glob (v := .ref T.cPut) rfl T.mPut rfl) pa_nil)))) (pss_one (ps_ret (pe_op op_sub (pe_op op_sub (pe_ix (r := rIxT K) ix_tup (pe_fld (pv 0) rfl) (pe_fld (pv 1) rfl) (fun _ _ => rfl)) (pv 3)) (pe_fld (pv 1) rfl)))) pss_nil)
      (pss_one (ps_ret (pe_op op_sub (pe_fld (pv 1) rfl) (pv 3))))))), ?_⟩
    refine ⟨_, rfl, _, rfl, a, v, d, caps, l, rfl, hD, ok, hA, hS, fun H1 q hs1 s1 => ?_⟩
    obtain ⟨p, dx, rfl, hp⟩ := deed_at (hD.same s1)
    have ty := ty_deed hp
    obtain ⟨jx, t, e1, e2⟩ := hJ.same s1
    obtain ⟨sp, sx, sg, rfl, g1, g2⟩ := hs1
    refine ⟨sp, _, sx, _, _, rfl, g1, T.lShare, T.nShare_more, lk2 (by decide +kernel), ?_⟩
    refine ⟨_, rfl, .ref p, .ref T.cPour, _, _, _, rfl, .own _, ty, is_pour T d, _, rfl, ?_⟩
    cases d with
    | pour i k =>
      refine ifT rfl ?_
      exact ⟨_, rfl, j, _, jx, _, _, rfl, e1, T.lJars, T.nJars_sizes, lk1, _, rfl, p, _, dx, _, _, rfl, hp, T.lPour, T.nPour_b, lk2 (by decide +kernel), t, _, _, _, rfl, rfl, SqT.of e2, vi_at ok.2.1, _, rfl, _, _, rfl, rfl, hq _ s1⟩
    | put i k =>
      refine ifF rfl ⟨_, rfl, .ref p, .ref T.cPut, _, _, _, rfl, .own _, ty, T.iPut_Put, _, rfl, ifT rfl ?_⟩
      exact ⟨_, rfl, j, _, jx, _, _, rfl, e1, T.lJars, T.nJars_sizes, lk1, _, rfl, p, _, dx, _, _, rfl, hp, T.lPut, T.nPut_a, lk1, t, _, _, _, rfl, rfl, SqT.of e2, vi_at ok.1, _, rfl, _, _, rfl, rfl, _, rfl, p, _, dx, _, _, rfl, hp, T.lPut, T.nPut_k, lk2 (by decide +kernel), _, _, rfl, rfl, hq _ s1⟩
    | draw i k =>
      refine ifF rfl ⟨_, rfl, .ref p, .ref T.cPut, _, _, _, rfl, .own _, ty, T.iDraw_Put, _, rfl, ifF rfl ?_⟩
      exact ⟨_, rfl, p, _, dx, _, _, rfl, hp, T.lDraw, T.nDraw_k, lk2 (by decide +kernel), _, rfl, _, _, rfl, rfl, hq _ s1⟩
    | change i k => cases nc
end
end Kp

namespace Kp
open PySem PySem.Spec PyProof.Rows L2 KpR
section
variable {K : PySem.W.Frag} {mg : Str → Option Value}
theorem sh_put {T : Tx K mg} {H : Hp} {c : Addr} {us : List V} {l : List Sh} {i : Nat} {x : V} {s : Sh} (hc : H c = some (.lst us)) (h : A2 (ShAt T H) us l) (hx : ShAt T H x s) :
    A2 (ShAt T (upd H c (.lst (us.set i x)))) (us.set i x) (l.set i s) := by
  have f : Fr c H (upd H c (.lst (us.set i x))) := fr_mut (Fr.refl _ _)
  exact A2set (A2.mono (fun _ _ q => q.fr f hc bl_l) h) (hx.fr f hc bl_l)
theorem ixN_natT {n i : Nat} (h : i < n) : ixN n (i : Int) = some i := by
  have e : atI (List.range n) (i : Int) = some i := atI_nat (by simp [h])
  unfold atI at e
  cases z : ixN (List.range n).length (i : Int) with
  | none => rw [z] at e; cases e
  | some j =>
    rw [z] at e
    have e2 : (List.range n)[j]? = some i := e
    have hj := (List.getElem?_eq_some_iff.mp e2).2
    rw [List.getElem_range] at hj
    subst hj
    rw [List.length_range] at z
    exact z
theorem sh_ix {T : Tx K mg} {H : Hp} {us : List V} {l : List Sh} {i : Nat} (h : A2 (ShAt T H) us l) (hi : i < l.length) : ixN us.length (i : Int) = some i := ixN_natT (by rw [h.len]; exact hi)
end
section
variable {P : Program} {w : World} {K : PySem.W.Frag} {mg : Str → Option Value} {base : Heap}
theorem okfirstway (T : Tx K mg) : FnOk P w K mg base CX0 6 T.afirstway T.dfirstway ["jars", "deed", "shares"] (spfirstway T) := by
  refine T.ffirstway.ok scfirstway (fun vs H Q E h => ?_) (fun cdv A outer s H vs Q E hr h => ?_)
  · obtain ⟨j, a, v, d, caps, l, rfl, _⟩ := h
    rfl
  · obtain ⟨j, a, v, d, caps, l, rfl, hJ, hD, ok, hA, hS, nc, hq⟩ := h
    refine ⟨_, (pss_cons (ps_set (i := 3) scfirstway.nd rfl (by first | exact Or.inl rfl | exact Or.inr rfl) (pe_call (oktested T) (hr.mono (by decide)) rfl T.gtested T.ftested.kp T.btested .nil pass0 (pa_cons (pv 1) (pa_cons (pv 2) pa_nil))))
      (pss_cons (ps_set (i := 4) scfirstway.nd rfl (by first | exact Or.inl rfl | exact Or.inr rfl) (pe_call (oklimitof T) (hr.mono (by decide)) rfl T.glimitof T.flimitof.kp T.blimitof .nil pass0 (pa_cons (pv 0) (pa_cons (pv 1) (pa_cons (pv 2) pa_nil)))))
      (pss_cons (ps_set (i := 5) scfirstway.nd rfl (by first | exact Or.inl rfl | exact Or.inr rfl) (pe_callTy call_list_of rfl T.nlist (by decide +kernel) (pa_cons (pv 2) pa_nil)))
      (pss_cons (ps_if (pt_val (pe_callB call_isi rfl T.nisinstance (by decide +kernel) (pa_cons (pv 1) (pa_cons (pe_glob (v := .ref T.cPut) rfl T.mPut rfl) pa_nil)))) (pss_cons (ps_asg (pe_call (okatmost T) (hr.mono (by decide)) rfl T.gatmost T.fatmost.kp T.batmost .nil pass0 (pa_cons (pv 3) (pa_cons (pv 4) (pa_cons (pe_fld (pv 1) rfl) pa_nil)))) (pg_sub (pv 5) (pe_fld (pv 1) rfl) set_list))
      (pss_one (ps_ret (pv 5)))) pss_nil)
      (pss_cons (ps_asg (pe_call (okofnojar T) (hr.mono (by decide)) rfl T.gofnojar T.fofnojar.kp T.bofnojar .nil pass0 (pa_cons pe_int pa_nil)) (pg_sub (pv 5) (pe_fld (pv 1) rfl) set_list))
      (C8.pss_cut (ps_if (pt_val (pe_callB call_isi rfl T.nisinstance (by decide +kernel) (pa_cons (pv 1) (pa_cons (pe_glob (v := .ref T.cPour) rfl T.mPour rfl) pa_nil)))) (pss_one (ps_asg (pe_call (okatmost T) (hr.mono (by decide)) rfl T.gatmost T.fatmost.kp T.batmost .nil pass0 (pa_cons (pv 3) (pa_cons (pv 4) (pa_cons pe_int pa_nil)))) (pg_sub (pv 5) (pe_fld (pv 1) rfl) set_list))) pss_nil)
      (pss_one (ps_ret (pv 5))))))))), ?_⟩
    refine ⟨_, rfl, _, rfl, a, v, d, caps, l, rfl, hD, ok, hA, hS, fun H1 q hs1 s1 => ?_⟩
    refine ⟨_, rfl, _, rfl, _, rfl, j, a, v, d, caps, l, rfl, hJ.same s1, hD.same s1, ok, hA.same s1, hS, nc, fun H2 s2 => ?_⟩
    have s12 := s1.trans s2
    obtain ⟨us, u1, u2⟩ := hA.same s12
    refine ⟨_, rfl, a, _, rfl, .inl (SqL.of u1), fun c hc => ?_⟩
    have s3 := s12.trans (same_new (o := .lst us) hc)
    have hc0 : H c = none := s12.free hc
    have c3 : (upd H2 c (.lst us)) c = some (.lst us) := upd_same
    have u3 : A2 (ShAt T (upd H2 c (.lst us))) us l := A2.mono (fun _ _ q => q.same (same_new hc)) u2
    have q3 : ShAt T (upd H2 c (.lst us)) q (d.share l) := (hs1.same s2).same (same_new hc)
    generalize upd H2 c (.lst us) = H3 at s3 c3 u3 q3 ⊢
    clear s12 u1 u2 hc s1 s2
    obtain ⟨p, dx, rfl, hp⟩ := deed_at (hD.same s3)
    have ty := ty_deed hp
    have ha : d.fst < l.length := by rw [hS.len]; cases d <;> exact ok.1
    refine ⟨_, rfl, .ref p, .ref T.cPut, _, _, _, rfl, .own _, ty, is_put T d, _, rfl, ?_⟩
    cases d with
    | put i k =>
      refine ifT rfl ⟨_, rfl, _, rfl, _, rfl, p, _, dx, _, _, rfl, hp, T.lPut, T.nPut_k, lk2 (by decide +kernel), q, _, _, _, rfl, q3, fun H4 x hx s4 => ?_⟩
      refine ⟨_, rfl, _, rfl, p, _, dx, _, _, rfl, s4 _ _ hp, T.lPut, T.nPut_a, lk1, c, _, _, i, rfl, rfl, s4 _ _ c3, sh_ix u3 ha, _, rfl, ?_⟩
      exact hq _ c hc0 ⟨_, upd_same, sh_put (s4 _ _ c3) (A2.mono (fun _ _ q => q.same s4) u3) hx⟩ (same_mut (s3.trans s4) hc0)
    | draw i k =>
      refine ifF rfl ⟨0, rfl, fun H4 x hx s4 => ?_⟩
      refine ⟨_, rfl, _, rfl, p, _, dx, _, _, rfl, s4 _ _ hp, T.lDraw, T.nDraw_a, lk1, c, _, _, i, rfl, rfl, s4 _ _ c3, sh_ix u3 ha, ?_⟩
      have hD4 : DeedAt T H4 (.ref p) (.draw i k) := ⟨p, dx, rfl, s4 _ _ hp⟩
      have u5 := sh_put (i := i) (s4 _ _ c3) (A2.mono (fun _ _ q => q.same s4) u3) hx
      have f5 : Fr c H4 (upd H4 c (.lst (us.set i x))) := fr_mut (Fr.refl _ _)
      obtain ⟨_, _, e, hp5⟩ := deed_at (hD4.fr f5 (s4 _ _ c3) bl_l)
      cases e
      refine ⟨fun σ Hn => σ = [some (.ref j), some (.ref p), some (.ref a), some q, some (.int (D.limit caps (.draw i k) l)), some (.ref c)] ∧ Hn = upd H4 c (.lst (us.set i x)), ⟨_, rfl, .ref p, .ref T.cPour, _, _, _, rfl, .own _, ty_deed hp5, is_pour T _, _, rfl, ifF rfl ⟨rfl, rfl⟩⟩, ?_⟩
      rintro σ H ⟨rfl, rfl⟩
      exact ⟨_, rfl, hq _ c hc0 ⟨_, upd_same, u5⟩ (same_mut (s3.trans s4) hc0)⟩
    | pour i k =>
      refine ifF rfl ⟨0, rfl, fun H4 x hx s4 => ?_⟩
      refine ⟨_, rfl, _, rfl, p, _, dx, _, _, rfl, s4 _ _ hp, T.lPour, T.nPour_a, lk1, c, _, _, i, rfl, rfl, s4 _ _ c3, sh_ix u3 ha, ?_⟩
      have hD4 : DeedAt T H4 (.ref p) (.pour i k) := ⟨p, dx, rfl, s4 _ _ hp⟩
      have u5 := sh_put (i := i) (s4 _ _ c3) (A2.mono (fun _ _ q => q.same s4) u3) hx
      have f5 : Fr c H4 (upd H4 c (.lst (us.set i x))) := fr_mut (Fr.refl _ _)
      obtain ⟨p5, dx5, e, hp5⟩ := deed_at (hD4.fr f5 (s4 _ _ c3) bl_l)
      cases e
      have q5 := (q3.same s4).fr f5 (s4 _ _ c3) bl_l
      have c5 : (upd H4 c (.lst (us.set i x))) c = some (.lst (us.set i x)) := upd_same
      have s5 : Same H (upd H4 c (.lst (us.set i x))) := same_mut (s3.trans s4) hc0
      generalize upd H4 c (.lst (us.set i x)) = H5 at u5 f5 hp5 q5 c5 s5 ⊢
      refine ⟨fun σ Hn => σ = [some (.ref j), some (.ref p), some (.ref a), some q, some (.int (D.limit caps (.pour i k) l)), some (.ref c)] ∧ ∃ us', Hn c = some (.lst us') ∧ A2 (ShAt T Hn) us' (D.way1 caps (.pour i k) l) ∧ Same H Hn, ?_, ?_⟩
      · refine ⟨_, rfl, .ref p, .ref T.cPour, _, _, _, rfl, .own _, ty_deed hp5, is_pour T _, _, rfl, ifT rfl ?_⟩
        refine ⟨_, rfl, _, rfl, q, _, _, _, rfl, q5, fun H6 y hy s6 => ?_⟩
        have u6 := A2.mono (fun _ _ q => q.same s6) u5
        refine ⟨_, rfl, _, rfl, p, _, dx5, _, _, rfl, s6 _ _ hp5, T.lPour, T.nPour_b, lk2 (by decide +kernel), c, _, _, k, rfl, rfl, s6 _ _ c5, sh_ix u6 (by rw [List.length_set, hS.len]; exact ok.2.1), rfl, _, upd_same, sh_put (s6 _ _ c5) u6 hy, same_mut (s5.trans s6) hc0⟩
      · rintro σ H' ⟨rfl, us', r1, r2, r3⟩
        exact ⟨_, rfl, hq _ c hc0 ⟨_, r1, r2⟩ r3⟩
    | change i k => cases nc
theorem oksecondway (T : Tx K mg) : FnOk P w K mg base CX0 6 T.asecondway T.dsecondway ["jars", "deed", "shares"] (spsecondway T) := by
  refine T.fsecondway.ok scsecondway (fun vs H Q E h => ?_) (fun cdv A outer s H vs Q E hr h => ?_)
  · obtain ⟨j, a, v, d, caps, l, rfl, _⟩ := h
    rfl
  · obtain ⟨j, a, v, d, caps, l, rfl, hJ, hD, ok, hA, hS, nc, hq⟩ := h
    refine ⟨_, (pss_cons (ps_set (i := 3) scsecondway.nd rfl (by first | exact Or.inl rfl | exact Or.inr rfl) (pe_call (oktested T) (hr.mono (by decide)) rfl T.gtested T.ftested.kp T.btested .nil pass0 (pa_cons (pv 1) (pa_cons (pv 2) pa_nil))))
      (pss_cons (ps_set (i := 4) scsecondway.nd rfl (by first | exact Or.inl rfl | exact Or.inr rfl) (pe_call (oklimitof T) (hr.mono (by decide)) rfl T.glimitof T.flimitof.kp T.blimitof .nil pass0 (pa_cons (pv 0) (pa_cons (pv 1) (pa_cons (pv 2) pa_nil)))))
      (pss_cons (ps_set (i := 5) scsecondway.nd rfl (by first | exact Or.inl rfl | exact Or.inr rfl) (pe_callTy call_list_of rfl T.nlist (by decide +kernel) (pa_cons (pv 2) pa_nil)))
      (pss_cons (ps_if (pt_val (pe_callB call_isi rfl T.nisinstance (by decide +kernel) (pa_cons (pv 1) (pa_cons (pe_glob (v := .ref T.cPut) rfl T.mPut rfl) pa_nil)))) (pss_cons (ps_asg (pe_call (okofnojar T) (hr.mono (by decide)) rfl T.gofnojar T.fofnojar.kp T.bofnojar .nil pass0 (pa_cons (pe_ix (r := rIxT K) ix_tup (pe_fld (pv 0) rfl) (pe_fld (pv 1) rfl) (fun _ _ => rfl)) pa_nil)) (pg_sub (pv 5) (pe_fld (pv 1) rfl) set_list))
      (pss_one (ps_ret (pv 5)))) pss_nil)
      (pss_cons (ps_if (pt_val (pe_callB call_isi rfl T.nisinstance (by decide +kernel) (pa_cons (pv 1) (pa_cons (pe_glob (v := .ref T.cPour) rfl T.mPour rfl) pa_nil)))) (pss_cons (ps_set (i := 6) scsecondway.nd rfl (by first | exact Or.inl rfl | exact Or.inr rfl) (pe_ix (r := rIxT K) ix_tup (pe_fld (pv 0) rfl) (pe_fld (pv 1) rfl) (fun _ _ => rfl)))
      (pss_cons (ps_asg (pe_call (okatleast T) (hr.mono (by decide)) rfl T.gatleast T.fatleast.kp T.batleast .nil pass0 (pa_cons (pv 3) (pa_cons (pv 4) (pa_cons (pe_un un_neg (pv 6)) pa_nil)))) (pg_sub (pv 5) (pe_fld (pv 1) rfl) set_list))
      (pss_cons (ps_asg (pe_call (okofnojar T) (hr.mono (by decide)) rfl T.gofnojar T.fofnojar.kp T.bofnojar .nil pass0 (pa_cons (pv 6) pa_nil)) (pg_sub (pv 5) (pe_fld (pv 1) rfl) set_list))
      (pss_one (ps_ret (pv 5)))))) pss_nil)
      (pss_cons (ps_asg (pe_call (okatleast T) (hr.mono (by decide)) rfl T.gatleast T.fatleast.kp T.batleast .nil pass0 (pa_cons (pv 3) (pa_cons (pv 4) (pa_cons (pe_un un_neg (pe_fld (pv 1) rfl)) pa_nil)))) (pg_sub (pv 5) (pe_fld (pv 1) rfl) set_list))
      (pss_one (ps_ret (pv 5))))))))), ?_⟩
    refine ⟨_, rfl, _, rfl, a, v, d, caps, l, rfl, hD, ok, hA, hS, fun H1 q hs1 s1 => ?_⟩
    refine ⟨_, rfl, _, rfl, _, rfl, j, a, v, d, caps, l, rfl, hJ.same s1, hD.same s1, ok, hA.same s1, hS, nc, fun H2 s2 => ?_⟩
    have s12 := s1.trans s2
    obtain ⟨us, u1, u2⟩ := hA.same s12
    refine ⟨_, rfl, a, _, rfl, .inl (SqL.of u1), fun c hc => ?_⟩
    have s3 := s12.trans (same_new (o := .lst us) hc)
    have hc0 : H c = none := s12.free hc
    have c3 : (upd H2 c (.lst us)) c = some (.lst us) := upd_same
    have u3 : A2 (ShAt T (upd H2 c (.lst us))) us l := A2.mono (fun _ _ q => q.same (same_new hc)) u2
    have q3 : ShAt T (upd H2 c (.lst us)) q (d.share l) := (hs1.same s2).same (same_new hc)
    generalize upd H2 c (.lst us) = H3 at s3 c3 u3 q3 ⊢
    clear s12 u1 u2 hc s1 s2
    obtain ⟨p, dx, rfl, hp⟩ := deed_at (hD.same s3)
    have ty := ty_deed hp
    obtain ⟨jx, t, e1, e2⟩ := hJ.same s3
    have ha : d.fst < l.length := by rw [hS.len]; cases d <;> exact ok.1
    have ha' : d.fst < caps.length := by cases d <;> exact ok.1
    refine ⟨_, rfl, .ref p, .ref T.cPut, _, _, _, rfl, .own _, ty, is_put T d, _, rfl, ?_⟩
    cases d with
    | put i k =>
      refine ifT rfl ⟨_, rfl, j, _, jx, _, _, rfl, e1, T.lJars, T.nJars_sizes, lk1, _, rfl, p, _, dx, _, _, rfl, hp, T.lPut, T.nPut_a, lk1, t, _, _, _, rfl, rfl, SqT.of e2, vi_at ha', _, rfl, fun H4 x hx s4 => ?_⟩
      refine ⟨_, rfl, _, rfl, p, _, dx, _, _, rfl, s4 _ _ hp, T.lPut, T.nPut_a, lk1, c, _, _, i, rfl, rfl, s4 _ _ c3, sh_ix u3 ha, _, rfl, ?_⟩
      exact hq _ c hc0 ⟨_, upd_same, sh_put (s4 _ _ c3) (A2.mono (fun _ _ q => q.same s4) u3) hx⟩ (same_mut (s3.trans s4) hc0)
    | draw i k =>
      refine ifF rfl ⟨_, rfl, .ref p, .ref T.cPour, _, _, _, rfl, .own _, ty, is_pour T _, _, rfl, ifF rfl ?_⟩
      refine ⟨_, rfl, _, rfl, _, rfl, p, _, dx, _, _, rfl, hp, T.lDraw, T.nDraw_k, lk2 (by decide +kernel), _, rfl, q, _, _, _, rfl, q3, fun H4 x hx s4 => ?_⟩
      refine ⟨_, rfl, _, rfl, p, _, dx, _, _, rfl, s4 _ _ hp, T.lDraw, T.nDraw_a, lk1, c, _, _, i, rfl, rfl, s4 _ _ c3, sh_ix u3 ha, _, rfl, ?_⟩
      exact hq _ c hc0 ⟨_, upd_same, sh_put (s4 _ _ c3) (A2.mono (fun _ _ q => q.same s4) u3) hx⟩ (same_mut (s3.trans s4) hc0)
    | pour i k =>
      refine ifF rfl ⟨_, rfl, .ref p, .ref T.cPour, _, _, _, rfl, .own _, ty, is_pour T _, _, rfl, ifT rfl ?_⟩
      refine ⟨_, rfl, j, _, jx, _, _, rfl, e1, T.lJars, T.nJars_sizes, lk1, _, rfl, p, _, dx, _, _, rfl, hp, T.lPour, T.nPour_b, lk2 (by decide +kernel), t, _, _, _, rfl, rfl, SqT.of e2, vi_at ok.2.1, ?_⟩
      refine ⟨_, rfl, _, rfl, _, rfl, _, rfl, q, _, _, _, rfl, q3, fun H4 x hx s4 => ?_⟩
      refine ⟨_, rfl, _, rfl, p, _, dx, _, _, rfl, s4 _ _ hp, T.lPour, T.nPour_a, lk1, c, _, _, i, rfl, rfl, s4 _ _ c3, sh_ix u3 ha, ?_⟩
      have hD4 : DeedAt T H4 (.ref p) (.pour i k) := ⟨p, dx, rfl, s4 _ _ hp⟩
      have u5 := sh_put (i := i) (s4 _ _ c3) (A2.mono (fun _ _ q => q.same s4) u3) hx
      have f5 : Fr c H4 (upd H4 c (.lst (us.set i x))) := fr_mut (Fr.refl _ _)
      obtain ⟨p5, dx5, e, hp5⟩ := deed_at (hD4.fr f5 (s4 _ _ c3) bl_l)
      cases e
      have c5 : (upd H4 c (.lst (us.set i x))) c = some (.lst (us.set i x)) := upd_same
      have s5 : Same H (upd H4 c (.lst (us.set i x))) := same_mut (s3.trans s4) hc0
      generalize upd H4 c (.lst (us.set i x)) = H5 at u5 f5 hp5 c5 s5 ⊢
      refine ⟨_, rfl, _, rfl, fun H6 y hy s6 => ?_⟩
      have u6 := A2.mono (fun _ _ q => q.same s6) u5
      refine ⟨_, rfl, _, rfl, p, _, dx5, _, _, rfl, s6 _ _ hp5, T.lPour, T.nPour_b, lk2 (by decide +kernel), c, _, _, k, rfl, rfl, s6 _ _ c5, sh_ix u6 (by rw [List.length_set, hS.len]; exact ok.2.1), _, rfl, ?_⟩
      exact hq _ c hc0 ⟨_, upd_same, sh_put (s6 _ _ c5) u6 hy⟩ (same_mut (s5.trans s6) hc0)
    | change i k => cases nc
theorem okischoice (T : Tx K mg) : FnOk P w K mg base CX0 6 T.aischoice T.dischoice ["jars", "deed", "shares"] (spischoice T) := by
  refine T.fischoice.ok scischoice (fun vs H Q E h => ?_) (fun cdv A outer s H vs Q E hr h => ?_)
  · obtain ⟨j, a, v, d, caps, l, rfl, _⟩ := h
    rfl
  · obtain ⟨j, a, v, d, caps, l, rfl, hJ, hD, ok, hA, hS, hq⟩ := h
    refine ⟨_, (pss_cons (ps_if (pt_val (pe_callB call_isi rfl T.nisinstance (by decide +kernel) (pa_cons (pv 1) (pa_cons (pe_glob (v := .ref T.cChange) rfl T.mChange rfl) pa_nil)))) (pss_one (ps_ret pe_bl)) pss_nil)
      (pss_cons (ps_set (i := 3) scischoice.nd rfl (by first | exact Or.inl rfl | exact Or.inr rfl) (pe_call (oktested T) (hr.mono (by decide)) rfl T.gtested T.ftested.kp T.btested .nil pass0 (pa_cons (pv 1) (pa_cons (pv 2) pa_nil))))
      (pss_one (ps_ret (pe_chain op_lt op_lt (pe_fld (pv 3) rfl) (pe_call (oklimitof T) (hr.mono (by decide)) rfl T.glimitof T.flimitof.kp T.blimitof .nil pass0 (pa_cons (pv 0) (pa_cons (pv 1) (pa_cons (pv 2) pa_nil)))) (pe_fld (pv 3) rfl)))))), ?_⟩
    obtain ⟨p, dx, rfl, hp⟩ := deed_at hD
    have ty := ty_deed hp
    refine ⟨_, rfl, .ref p, .ref T.cChange, _, _, _, rfl, .own _, ty, is_change T d, _, rfl, ?_⟩
    by_cases nc : d.ischange = false
    · have e0 : d.isChange = false := by cases d <;> first | rfl | cases nc
      refine ifF e0 ?_
      refine ⟨_, rfl, _, rfl, a, .ref p, d, caps, l, rfl, hD, ok, hA, hS, fun H1 q hs1 s1 => ?_⟩
      have hs1' := hs1
      obtain ⟨sp, sx, sg, rfl, g1, g2⟩ := hs1
      refine ⟨_, rfl, sp, _, sx, _, _, rfl, g1, T.lShare, T.nShare_low, lk3 (by decide +kernel) (by decide +kernel), ?_⟩
      refine ⟨_, rfl, _, rfl, _, rfl, j, a, .ref p, d, caps, l, rfl, hJ.same s1, hD.same s1, ok, hA.same s1, hS, nc, fun H2 s2 => ?_⟩
      have fin : ∀ b, b = d.choice caps l → Q (.bl b) H2 := fun b e => by rw [e]; exact hq _ (s1.trans s2)
      have ch : d.choice caps l = (decide ((d.share l).low < d.limit caps l) && decide (d.limit caps l < (d.share l).high)) := by
        unfold D.choice
        rw [nc]
        rfl
      refine ⟨_, _, rfl, rfl, ?_⟩
      refine ⟨_, rfl, ?_⟩
      by_cases c : (d.share l).low < d.limit caps l
      · refine ifT (decide_eq_true c) ?_
        refine ⟨_, rfl, sp, _, sx, _, _, rfl, s2 _ _ g1, T.lShare, T.nShare_high, lk4 (by decide +kernel) (by decide +kernel) (by decide +kernel), _, _, rfl, rfl, fin _ ?_⟩
        rw [ch, decide_eq_true c]
        rfl
      · refine ifF (decide_eq_false c) (fin _ ?_)
        rw [ch, decide_eq_false c]
        rfl
    · have e0 : d.isChange = true := by cases d <;> first | rfl | exact absurd rfl nc
      refine ifT e0 ?_
      have ch : d.choice caps l = false := by cases d <;> first | rfl | exact absurd rfl nc
      rw [ch] at hq
      exact hq _ (Same.refl _)
theorem okonlyway (T : Tx K mg) : FnOk P w K mg base CX0 7 T.aonlyway T.donlyway ["jars", "deed", "shares"] (sponlyway T) := by
  refine T.fonlyway.ok sconlyway (fun vs H Q E h => ?_) (fun cdv A outer s H vs Q E hr h => ?_)
  · obtain ⟨j, a, v, d, caps, l, rfl, _⟩ := h
    rfl
  · obtain ⟨j, a, v, d, caps, l, rfl, hJ, hD, ok, hA, hS, hq⟩ := h
    refine ⟨_, (pss_cons (ps_if (pt_val (pe_callB call_isi rfl T.nisinstance (by decide +kernel) (pa_cons (pv 1) (pa_cons (pe_glob (v := .ref T.cChange) rfl T.mChange rfl) pa_nil)))) (pss_cons (ps_set (i := 3) sconlyway.nd rfl (by first | exact Or.inl rfl | exact Or.inr rfl) (pe_callTy call_list_of rfl T.nlist (by decide +kernel) (pa_cons (pv 2) pa_nil)))
      (pss_cons (ps_asg (pe_ix (r := rIxL K) ix_list (pv 2) (pe_fld (pv 1) rfl) (fun _ _ => rfl)) (pg_sub (pv 3) (pe_fld (pv 1) rfl) set_list))
      (pss_cons (ps_asg (pe_ix (r := rIxL K) ix_list (pv 2) (pe_fld (pv 1) rfl) (fun _ _ => rfl)) (pg_sub (pv 3) (pe_fld (pv 1) rfl) set_list))
      (pss_one (ps_ret (pv 3)))))) pss_nil)
      (pss_cons (ps_if (pt_cmpR op_le (pe_fld (pe_call (oktested T) (hr.mono (by decide)) rfl T.gtested T.ftested.kp T.btested .nil pass0 (pa_cons (pv 1) (pa_cons (pv 2) pa_nil))) rfl) (pe_call (oklimitof T) (hr.mono (by decide)) rfl T.glimitof T.flimitof.kp T.blimitof .nil pass0 (pa_cons (pv 0) (pa_cons (pv 1) (pa_cons (pv 2) pa_nil)))) (nomark _)) (pss_one (ps_ret (pe_call (okfirstway T) (hr.mono (by decide)) rfl T.gfirstway T.ffirstway.kp T.bfirstway .nil pass0 (pa_cons (pv 0) (pa_cons (pv 1) (pa_cons (pv 2) pa_nil)))))) pss_nil)
      (pss_one (ps_ret (pe_call (oksecondway T) (hr.mono (by decide)) rfl T.gsecondway T.fsecondway.kp T.bsecondway .nil pass0 (pa_cons (pv 0) (pa_cons (pv 1) (pa_cons (pv 2) pa_nil)))))))), ?_⟩
    obtain ⟨p, dx, rfl, hp⟩ := deed_at hD
    have ty := ty_deed hp
    refine ⟨_, rfl, .ref p, .ref T.cChange, _, _, _, rfl, .own _, ty, is_change T d, _, rfl, ?_⟩
    by_cases nc : d.ischange = false
    · have e0 : d.isChange = false := by cases d <;> first | rfl | cases nc
      refine ifF e0 ?_
      refine ⟨_, rfl, _, rfl, a, .ref p, d, caps, l, rfl, hD, ok, hA, hS, fun H1 q hs1 s1 => ?_⟩
      obtain ⟨sp, sx, sg, rfl, g1, g2⟩ := hs1
      refine ⟨sp, _, sx, _, _, rfl, g1, T.lShare, T.nShare_high, lk4 (by decide +kernel) (by decide +kernel) (by decide +kernel), ?_⟩
      refine ⟨_, rfl, _, rfl, _, rfl, j, a, .ref p, d, caps, l, rfl, hJ.same s1, hD.same s1, ok, hA.same s1, hS, nc, fun H2 s2 => ?_⟩
      have s12 := s1.trans s2
      have ch : d.only caps l = if (d.share l).high ≤ d.limit caps l then d.way1 caps l else d.way2 caps l := by cases d <;> first | rfl | cases nc
      refine ⟨_, _, rfl, rfl, _, rfl, ifD (fun c => ?_) (fun c => ?_)⟩
      · rw [if_pos c] at ch
        rw [ch] at hq
        exact ⟨_, rfl, _, rfl, _, rfl, j, a, .ref p, d, caps, l, rfl, hJ.same s12, hD.same s12, ok, hA.same s12, hS, nc, fun H3 q h1 h2 h3 => hq H3 q (s12.free h1) h2 (s12.trans h3)⟩
      · rw [if_neg c] at ch
        rw [ch] at hq
        exact ⟨_, rfl, _, rfl, _, rfl, j, a, .ref p, d, caps, l, rfl, hJ.same s12, hD.same s12, ok, hA.same s12, hS, nc, fun H3 q h1 h2 h3 => hq H3 q (s12.free h1) h2 (s12.trans h3)⟩
    · cases d with
      | change i k =>
        refine ifT rfl ?_
        obtain ⟨us, u1, u2⟩ := hA
        obtain ⟨o1, o2, o3, o4⟩ := ok
        have li : i < l.length := by rw [hS.len]; exact o1
        have lk : k < l.length := by rw [hS.len]; exact o2
        obtain ⟨x, x1, _, x2⟩ := A2at u2 (atS_get li)
        obtain ⟨y, y1, _, y2⟩ := A2at u2 (atS_get lk)
        refine ⟨_, rfl, a, _, rfl, .inl (SqL.of u1), fun c hc => ?_⟩
        have s3 := same_new (o := .lst us) hc
        have u3 : A2 (ShAt T (upd H c (.lst us))) us l := A2.mono (fun _ _ q => q.same s3) u2
        have c3 : (upd H c (.lst us)) c = some (.lst us) := upd_same
        have nac : a ≠ c := ne_of_none u1 hc
        generalize upd H c (.lst us) = H3 at s3 u3 c3 ⊢
        refine ⟨_, rfl, _, rfl, p, _, dx, _, _, rfl, s3 _ _ hp, T.lChange, T.nChange_b, lk2 (by decide +kernel), a, _, _, _, rfl, rfl, SqL.of (s3 _ _ u1), y1, ?_⟩
        refine ⟨_, rfl, _, rfl, p, _, dx, _, _, rfl, s3 _ _ hp, T.lChange, T.nChange_a, lk1, c, _, _, i, rfl, rfl, c3, sh_ix u3 li, ?_⟩
        have u5 := sh_put (i := i) c3 u3 (y2.same s3)
        have f5 : Fr c H3 (upd H3 c (.lst (us.set i y))) := fr_mut (Fr.refl _ _)
        have c5 : (upd H3 c (.lst (us.set i y))) c = some (.lst (us.set i y)) := upd_same
        have a5 := f5 _ _ nac (s3 _ _ u1)
        have s5 : Same H (upd H3 c (.lst (us.set i y))) := same_mut s3 hc
        generalize upd H3 c (.lst (us.set i y)) = H5 at u5 f5 c5 s5 a5 ⊢
        have p5 := s5 _ _ hp
        refine ⟨_, rfl, _, rfl, p, _, dx, _, _, rfl, p5, T.lChange, T.nChange_a, lk1, a, _, _, _, rfl, rfl, SqL.of a5, x1, ?_⟩
        refine ⟨_, rfl, _, rfl, p, _, dx, _, _, rfl, p5, T.lChange, T.nChange_b, lk2 (by decide +kernel), c, _, _, k, rfl, rfl, c5, sh_ix u5 (by rw [List.length_set]; exact lk), _, rfl, ?_⟩
        exact hq _ c hc ⟨_, upd_same, sh_put c5 u5 (x2.same s5)⟩ (same_mut s5 hc)
      | pour i k => exact absurd rfl nc
      | put i k => exact absurd rfl nc
      | draw i k => exact absurd rfl nc
end
end Kp

namespace Kp
open PySem PySem.Spec PyProof.Rows L2 KpR
section
variable {K : PySem.W.Frag} {mg : Str → Option Value}
def SumAt (T : Tx K mg) (H : Hp) (v : V) (q : List Int × Int) : Prop := ∃ p dx t, v = .ref p ∧ H p = some (.ins T.cSum dx (f2s "group" (.ref t) "more" (.int q.2))) ∧ H t = some (.tup (vi q.1))
theorem SumAt.same {T : Tx K mg} {H H' : Hp} {v : V} {q : List Int × Int} (e : Same H H') (h : SumAt T H v q) : SumAt T H' v q := by
  obtain ⟨p, dx, t, rfl, h1, h2⟩ := h
  exact ⟨p, dx, t, rfl, e _ _ h1, e _ _ h2⟩
theorem SumAt.fr {T : Tx K mg} {w : Addr} {H H' : Hp} {u : HO} {v : V} {q : List Int × Int} (e : Fr w H H') (hw : H w = some u) (hb : Blank u) (h : SumAt T H v q) : SumAt T H' v q := by
  obtain ⟨p, dx, t, rfl, h1, h2⟩ := h
  exact ⟨p, dx, t, rfl, fr_no e hw hb h1 nb2, fr_no e hw hb h2 nbT⟩
def TrAt (T : Tx K mg) (H : Hp) : V → Tr → Prop
  | v, .leaf ss => ∃ p dx t us, v = .ref p ∧ H p = some (.ins T.cLeaf dx (f1s "sums" (.ref t))) ∧ H t = some (.tup us) ∧ A2 (SumAt T H) us ss
  | v, .test d g l a b => ∃ p dx t x y, v = .ref p ∧ H p = some (.ins T.cTest dx (fts (.int d) (.ref t) (.int l) x y)) ∧ H t = some (.tup (vi g)) ∧ TrAt T H x a ∧ TrAt T H y b
theorem TrAt.same {T : Tx K mg} {H H' : Hp} (e : Same H H') : ∀ {t : Tr} {v : V}, TrAt T H v t → TrAt T H' v t
  | .leaf ss, v, h => by
    obtain ⟨p, dx, t, us, rfl, h1, h2, h3⟩ := h
    exact ⟨p, dx, t, us, rfl, e _ _ h1, e _ _ h2, A2.mono (fun _ _ q => q.same e) h3⟩
  | .test d g l a b, v, h => by
    obtain ⟨p, dx, t, x, y, rfl, h1, h2, h3, h4⟩ := h
    exact ⟨p, dx, t, x, y, rfl, e _ _ h1, e _ _ h2, h3.same e, h4.same e⟩
theorem TrAt.fr {T : Tx K mg} {w : Addr} {H H' : Hp} {u : HO} (e : Fr w H H') (hw : H w = some u) (hb : Blank u) : ∀ {t : Tr} {v : V}, TrAt T H v t → TrAt T H' v t
  | .leaf ss, v, h => by
    obtain ⟨p, dx, t, us, rfl, h1, h2, h3⟩ := h
    exact ⟨p, dx, t, us, rfl, fr_no e hw hb h1 nb1, fr_no e hw hb h2 nbT, A2.mono (fun _ _ q => q.fr e hw hb) h3⟩
  | .test d g l a b, v, h => by
    obtain ⟨p, dx, t, x, y, rfl, h1, h2, h3, h4⟩ := h
    exact ⟨p, dx, t, x, y, rfl, fr_no e hw hb h1 nbt, fr_no e hw hb h2 nbT, h3.fr e hw hb, h4.fr e hw hb⟩
/-- a grower that has made n leaves -/
def GrAt (T : Tx K mg) (H : Hp) (g : Addr) (caps : List Int) (ds : List D) (n : Nat) : Prop := ∃ dx j t vs, H g = some (.ins T.cGrower dx (fgs (.ref j) (.ref t) (n : Int))) ∧ JarsAt T H j caps ∧ H t = some (.tup vs) ∧ A2 (DeedAt T H) vs ds
theorem GrAt.same {T : Tx K mg} {H H' : Hp} {g : Addr} {caps : List Int} {ds : List D} {n : Nat} (e : Same H H') (h : GrAt T H g caps ds n) : GrAt T H' g caps ds n := by
  obtain ⟨dx, j, t, vs, h1, h2, h3, h4⟩ := h
  exact ⟨dx, j, t, vs, e _ _ h1, h2.same e, e _ _ h3, A2.mono (fun _ _ q => q.same e) h4⟩
theorem GrAt.bl {T : Tx K mg} {H : Hp} {g : Addr} {caps : List Int} {ds : List D} {n : Nat} (h : GrAt T H g caps ds n) : ∃ o, H g = some o ∧ Blank o := by
  obtain ⟨dx, j, t, vs, h1, _⟩ := h
  exact ⟨_, h1, bl_g⟩
theorem GrAt.ne {T : Tx K mg} {H : Hp} {g a : Addr} {caps : List Int} {ds : List D} {n : Nat} {us : List V} (h : GrAt T H g caps ds n) (k : H a = some (.lst us)) : a ≠ g := fun z => by
  obtain ⟨dx, j, t, vs, h1, _⟩ := h
  rw [z, h1] at k
  cases k
/-- what is raised where there are too many leaves -/
def wE (T : Tx K mg) (g : Addr) (H : Hp) (E : XK) : Prop := ∀ (H' : Hp) (d : Addr), H' d = some (.xd (f1s "count" (.int 25))) → Fr g H H' → E (.ref T.cWide) (some d) H'
def spX1 (C : Addr) (f : Str) : Sp := fun vs H Q _ => ∃ (a : Addr) (u : V), vs = [.ref a, u] ∧ H a = some (exo a C none) ∧
  ∀ (H' : Hp) (d : Addr), H d = none → d ≠ a → H' a = some (exo a C (some d)) → H' d = some (exd d (f1s f u)) → Fr a H H' → Q .non H'
def spWideInit (T : Tx K mg) : Sp := spX1 T.cWide "count"
theorem x1_made {H : Hp} {C : Addr} {f : Str} {u : V} {E : XK} (h : ∀ (H' : Hp) (d : Addr), H' d = some (.xd (f1s f u)) → Same H H' → E (.ref C) (some d) H') : ∀ a, H a = none → spX1 C f [.ref a, u] (upd H a (exo a C none))
    (fun v H2 => v = .non ∧ ∃ (d : Addr) (fs : List (Str × V)), H2 a = some (exo a C (some d)) ∧ H2 d = some (exd d fs) ∧ H d = none ∧ E (.ref C) (some d) (upd (del H2 a) d (.xd fs))) (fun _ _ _ => False) := fun a ha => by
  refine ⟨a, u, rfl, upd_same, fun H' d hd ne e1 e2 fr => ⟨rfl, d, _, e1, e2, by rw [upd_ne ne] at hd; exact hd, ?_⟩⟩
  have hd0 : H d = none := by rw [upd_ne ne] at hd; exact hd
  refine h _ d upd_same fun b o e => ?_
  have n1 := ne_of_none e ha
  have n2 := ne_of_none e hd0
  rw [upd_ne n2, del_ne n1]
  exact fr b o n1 (by rw [upd_ne n1]; exact e)
def spSumInit (T : Tx K mg) : Sp := fun vs H Q _ => ∃ (p dx a : Addr) (g : List Int) (m : V), vs = [.ref p, .ref a, m] ∧ H p = some (.ins T.cSum dx []) ∧ H a = some (.tup (vi g)) ∧ g.length ≤ 20 ∧
  ∀ (H' : Hp) (t : Addr), H' p = some (.ins T.cSum dx (f2s "group" (.ref t) "more" m)) → H' t = some (.tup (vi (srtI g))) → Fr p H H' → Q .non H'
def spLeafInit (T : Tx K mg) : Sp := fun vs H Q _ => ∃ (p dx a : Addr) (us : List V), vs = [.ref p, .ref a] ∧ H p = some (.ins T.cLeaf dx []) ∧ H a = some (.lst us) ∧
  ∀ (H' : Hp) (t : Addr), H' p = some (.ins T.cLeaf dx (f1s "sums" (.ref t))) → H' t = some (.tup us) → Fr p H H' → Q .non H'
def spTestInit (T : Tx K mg) : Sp := fun vs H Q _ => ∃ (p dx a : Addr) (g : List Int) (d l x y : V), vs = [.ref p, d, .ref a, l, x, y] ∧ H p = some (.ins T.cTest dx []) ∧ H a = some (.tup (vi g)) ∧ g.length ≤ 20 ∧
  ∀ (H' : Hp) (t : Addr), H' p = some (.ins T.cTest dx (fts d (.ref t) l x y)) → H' t = some (.tup (vi (srtI g))) → Fr p H H' → Q .non H'
def spGrowerInit (T : Tx K mg) : Sp := fun vs H Q _ => ∃ (p dx r : Addr) (caps : List Int) (ds : List D), vs = [.ref p, .ref r] ∧ H p = some (.ins T.cGrower dx []) ∧ RowAt T H r caps ds ∧
  ∀ H' : Hp, GrAt T H' p caps ds 0 → Fr p H H' → Q .non H'
/-- what comes of so many leaves: a tree, or Wide -/
def grR (T : Tx K mg) (g : Addr) (caps : List Int) (ds : List D) (n : Nat) (t : Tr) (H : Hp) (Q : VK) (E : XK) : Prop :=
  (n + t.leaves ≤ 24 → ∀ (H' : Hp) (q : V), TrAt T H' q t → GrAt T H' g caps ds (n + t.leaves) → Fr g H H' → Q q H') ∧ (24 < n + t.leaves → wE T g H E)
def spGrowerLeaf (T : Tx K mg) : Sp := fun vs H Q E => ∃ (g a : Addr) (caps : List Int) (ds : List D) (n : Nat) (l : List Sh), vs = [.ref g, .ref a] ∧ GrAt T H g caps ds n ∧ n ≤ 24 ∧ ShsAt T H a l ∧ glen l ≤ 6 ∧ l.length ≤ 6 ∧ grR T g caps ds n (leafOf l) H Q E
def spGrown (T : Tx K mg) (m : Nat) : Sp := fun vs H Q E => ∃ (g a : Addr) (i : Nat) (caps : List Int) (ds : List D) (n : Nat) (l : List Sh), vs = [.ref g, .int i, .ref a] ∧ GrAt T H g caps ds n ∧ n ≤ 24 ∧ caps.length ≤ 6 ∧ (∀ d ∈ ds, d.ok caps) ∧ ds.length ≤ i + m ∧ ds.length ≤ 20 ∧ i ≤ ds.length ∧
  ShsAt T H a l ∧ Shs caps l ∧ grR T g caps ds n (grow caps i (ds.drop i) l) H Q E
def spParted (T : Tx K mg) (m : Nat) : Sp := fun vs H Q E => ∃ (g a : Addr) (i : Nat) (caps : List Int) (ds : List D) (d : D) (n : Nat) (l : List Sh), vs = [.ref g, .int i, .ref a] ∧ GrAt T H g caps ds n ∧ n ≤ 24 ∧ caps.length ≤ 6 ∧ (∀ d ∈ ds, d.ok caps) ∧ ds.length ≤ i + m ∧ ds.length ≤ 20 ∧
  ds[i]? = some d ∧ d.choice caps l = true ∧ ShsAt T H a l ∧ Shs caps l ∧ grR T g caps ds n (grow caps i (ds.drop i) l) H Q E
def sptreeof (T : Tx K mg) : Sp := fun vs H Q E => ∃ (r : Addr) (caps : List Int) (ds : List D), vs = [.ref r] ∧ RowAt T H r caps ds ∧ caps.length ≤ 6 ∧ (∀ d ∈ ds, d.ok caps) ∧ ds.length ≤ 20 ∧
  ((treeOf caps ds).leaves ≤ 24 → ∀ (H' : Hp) (q : V), TrAt T H' q (treeOf caps ds) → Same H H' → Q q H') ∧
  (24 < (treeOf caps ds).leaves → ∀ (H' : Hp) (d : Addr), H' d = some (.xd (f1s "count" (.int 25))) → Same H H' → E (.ref T.cWide) (some d) H')
end
section
variable {P : Program} {w : World} {K : PySem.W.Frag} {mg : Str → Option Value} {base : Heap}
theorem okWideInit (T : Tx K mg) : FnOk P w K mg base CX0 1 T.aWideInit T.dWideInit ["self", "count"] (spWideInit T) := by
  refine T.fWideInit.ok scWideInit (fun vs H Q E h => ?_) (fun cdv A outer s H vs Q E hr h => ?_)
  · obtain ⟨a, u, rfl, _⟩ := h
    rfl
  · obtain ⟨a, u, rfl, ha, hq⟩ := h
    refine ⟨_, (pss_one (ps_ost (pv 0) (pv 1))), ?_⟩
    refine ⟨_, rfl, _, rfl, a, _, rfl, T.oWide, T.nWide_count, .inl ⟨ha, fun d hd ne => ?_⟩⟩
    refine hq _ d hd ne upd_same (by rw [upd_ne ne]; exact upd_same) ?_
    exact fun b o n1 e => by
      have n2 := ne_of_none e hd
      rw [upd_ne n1, upd_ne n2]
      exact e
theorem okSumInit (T : Tx K mg) : FnOk P w K mg base CX0 1 T.aSumInit T.dSumInit ["self", "group", "more"] (spSumInit T) := by
  refine T.fSumInit.ok scSumInit (fun vs H Q E h => ?_) (fun cdv A outer s H vs Q E hr h => ?_)
  · obtain ⟨p, dx, a, g, m, rfl, _⟩ := h
    rfl
  · obtain ⟨p, dx, a, g, m, rfl, hp, ha, hl, hq⟩ := h
    refine ⟨_, (pss_cons (ps_fld (pv 0) (pe_callTy call_tuple_of rfl T.ntuple (by decide +kernel) (pa_cons (pe_callB cr_srt rfl T.nsorted (by decide +kernel) (pa_cons (pv 1) pa_nil)) pa_nil)) rfl)
      (pss_one (ps_fld (pv 0) (pv 2) rfl))), ?_⟩
    refine ⟨_, rfl, a, g, rfl, .inr (SqT.of ha), by omega, fun ns q pe pw hq0 => ?_⟩
    obtain rfl := srtI_of pe pw
    have s1 := same_new (o := .lst (vi (srtI g))) hq0
    refine ⟨q, _, rfl, .inl ⟨SqL.of upd_same, fun t ht => ?_⟩⟩
    have s2 := s1.trans (same_new (o := .tup (vi (srtI g))) ht)
    have h2 : (upd (upd H q (.lst (vi (srtI g)))) t (.tup (vi (srtI g)))) t = some (.tup (vi (srtI g))) := upd_same
    show _
    generalize hH2 : upd (upd H q (.lst (List.map V.int (srtI g)))) t (.tup (List.map V.int (srtI g))) = H2
    have s2 : Same H H2 := by rw [← hH2]; exact s2
    have h2 : H2 t = some (.tup (vi (srtI g))) := by rw [← hH2]; exact h2
    have nt : t ≠ p := fun z => by rw [z, s2 _ _ hp] at h2; cases h2
    refine ⟨_, rfl, p, _, dx, _, rfl, s2 _ _ hp, T.lSum, T.nSum_group, (by show 0 < 1000; decide), ?_⟩
    refine ⟨_, rfl, _, rfl, p, _, dx, _, rfl, upd_same, T.lSum, T.nSum_more, (by show 1 < 1000; decide), ?_⟩
    refine hq _ t ?_ ?_ (fr_mut (fr_mut (Fr.of s2)))
    · rw [upd_same, put2 (by decide +kernel)]
      rfl
    · rw [upd_ne nt, upd_ne nt]
      exact h2
theorem okLeafInit (T : Tx K mg) : FnOk P w K mg base CX0 1 T.aLeafInit T.dLeafInit ["self", "sums"] (spLeafInit T) := by
  refine T.fLeafInit.ok scLeafInit (fun vs H Q E h => ?_) (fun cdv A outer s H vs Q E hr h => ?_)
  · obtain ⟨p, dx, a, us, rfl, _⟩ := h
    rfl
  · obtain ⟨p, dx, a, us, rfl, hp, ha, hq⟩ := h
    refine ⟨_, (pss_one (ps_fld (pv 0) (pe_callTy call_tuple_of rfl T.ntuple (by decide +kernel) (pa_cons (pv 1) pa_nil)) rfl)), ?_⟩
    refine ⟨_, rfl, a, _, rfl, .inl ⟨SqL.of ha, fun t ht => ?_⟩⟩
    have nt : p ≠ t := ne_of_none hp ht
    refine ⟨_, rfl, p, _, dx, _, rfl, (by rw [upd_ne nt]; exact hp), T.lLeaf, T.nLeaf_sums, (by show 0 < 1000; decide), ?_⟩
    exact hq _ t upd_same (by rw [upd_ne nt.symm]; exact upd_same) (fr_mut (fr_new (Fr.refl _ _) ht))
theorem okTestInit (T : Tx K mg) : FnOk P w K mg base CX0 1 T.aTestInit T.dTestInit ["self", "deed", "group", "limit", "first", "second"] (spTestInit T) := by
  refine T.fTestInit.ok scTestInit (fun vs H Q E h => ?_) (fun cdv A outer s H vs Q E hr h => ?_)
  · obtain ⟨p, dx, a, g, d, l, x, y, rfl, _⟩ := h
    rfl
  · obtain ⟨p, dx, a, g, d, l, x, y, rfl, hp, ha, hl, hq⟩ := h
    refine ⟨_, (pss_cons (ps_fld (pv 0) (pv 1) rfl)
      (pss_cons (ps_fld (pv 0) (pe_callTy call_tuple_of rfl T.ntuple (by decide +kernel) (pa_cons (pe_callB cr_srt rfl T.nsorted (by decide +kernel) (pa_cons (pv 2) pa_nil)) pa_nil)) rfl)
      (pss_cons (ps_fld (pv 0) (pv 3) rfl)
      (pss_cons (ps_fld (pv 0) (pv 4) rfl)
      (pss_one (ps_fld (pv 0) (pv 5) rfl)))))), ?_⟩
    refine ⟨_, rfl, _, rfl, p, _, dx, _, rfl, hp, T.lTest, T.nTest_deed, (by show 0 < 1000; decide), ?_⟩
    have f1 : Fr p H (upd H p (.ins T.cTest dx (putF "deed" d []))) := fr_mut (Fr.refl _ _)
    have p1 : (upd H p (.ins T.cTest dx (putF "deed" d []))) p = some (.ins T.cTest dx (putF "deed" d [])) := upd_same
    have a1 := f1 _ _ (fun z => by rw [z, hp] at ha; cases ha) ha
    generalize upd H p (.ins T.cTest dx (putF "deed" d [])) = H1 at f1 p1 a1 ⊢
    refine ⟨_, rfl, a, g, rfl, .inr (SqT.of a1), by omega, fun ns q pe pw hq0 => ?_⟩
    obtain rfl := srtI_of pe pw
    have s1 := same_new (o := .lst (vi (srtI g))) hq0
    refine ⟨q, _, rfl, .inl ⟨SqL.of upd_same, fun t ht => ?_⟩⟩
    have s2 := s1.trans (same_new (o := .tup (vi (srtI g))) ht)
    have h2 : (upd (upd H1 q (.lst (vi (srtI g)))) t (.tup (vi (srtI g)))) t = some (.tup (vi (srtI g))) := upd_same
    show _
    generalize hH2 : upd (upd H1 q (.lst (List.map V.int (srtI g)))) t (.tup (List.map V.int (srtI g))) = H2
    have s2 : Same H1 H2 := by rw [← hH2]; exact s2
    have h2 : H2 t = some (.tup (vi (srtI g))) := by rw [← hH2]; exact h2
    have nt : t ≠ p := fun z => by rw [z, s2 _ _ p1] at h2; cases h2
    refine ⟨_, rfl, p, _, dx, _, rfl, s2 _ _ p1, T.lTest, T.nTest_group, (by show 1 < 1000; decide), ?_⟩
    refine ⟨_, rfl, _, rfl, p, _, dx, _, rfl, upd_same, T.lTest, T.nTest_limit, (by show 2 < 1000; decide), ?_⟩
    refine ⟨_, rfl, _, rfl, p, _, dx, _, rfl, upd_same, T.lTest, T.nTest_first, (by show 3 < 1000; decide), ?_⟩
    refine ⟨_, rfl, _, rfl, p, _, dx, _, rfl, upd_same, T.lTest, T.nTest_second, (by show 4 < 1000; decide), ?_⟩
    refine hq _ t ?_ ?_ (fr_mut (fr_mut (fr_mut (fr_mut (f1.trans (Fr.of s2))))))
    · rw [upd_same]
      rfl
    · rw [upd_ne nt, upd_ne nt, upd_ne nt, upd_ne nt]
      exact h2
theorem okGrowerInit (T : Tx K mg) : FnOk P w K mg base CX0 1 T.aGrowerInit T.dGrowerInit ["self", "row"] (spGrowerInit T) := by
  refine T.fGrowerInit.ok scGrowerInit (fun vs H Q E h => ?_) (fun cdv A outer s H vs Q E hr h => ?_)
  · obtain ⟨p, dx, r, caps, ds, rfl, _⟩ := h
    rfl
  · obtain ⟨p, dx, r, caps, ds, rfl, hp, ⟨rx, j, t, vs, r1, r2, r3, r4⟩, hq⟩ := h
    refine ⟨_, (pss_cons (ps_fld (pv 0) (pe_fld (pv 1) rfl) rfl)
      (pss_cons (ps_fld (pv 0) (pe_fld (pv 1) rfl) rfl)
      (pss_one (ps_fld (pv 0) pe_int rfl)))), ?_⟩
    have rp : r ≠ p := ne_of r1 hp (by intro z; injection z with z1 z2 z3; cases z3)
    refine ⟨_, rfl, r, _, rx, _, _, rfl, r1, T.lRow, T.nRow_jars, lk1, _, rfl, p, _, dx, _, rfl, hp, T.lGrower, T.nGrower_jars, (by show 0 < 1000; decide), ?_⟩
    refine ⟨_, rfl, r, _, rx, _, _, rfl, (by rw [upd_ne rp]; exact r1), T.lRow, T.nRow_deeds, lk2 (by decide +kernel), _, rfl, p, _, dx, _, rfl, upd_same, T.lGrower, T.nGrower_deeds, (by show 1 < 1000; decide), ?_⟩
    refine ⟨_, rfl, p, _, dx, _, rfl, upd_same, T.lGrower, T.nGrower_leaves, (by show 2 < 1000; decide), ?_⟩
    have key : ∀ H' : Hp, H' p = some (.ins T.cGrower dx (fgs (.ref j) (.ref t) ((0 : Nat) : Int))) → Fr p H H' → Q .non H' := fun H' h f =>
      hq H' ⟨dx, j, t, vs, h, r2.fr f hp bl_i, fr_no f hp bl_i r3 nbT, A2.mono (fun _ _ q => q.fr f hp bl_i) r4⟩ f
    exact key _ (by rw [upd_same]; rfl) (fr_mut (fr_mut (fr_mut (Fr.refl _ _))))
end
end Kp

namespace Kp
open PySem PySem.Spec PyProof.Rows L2 KpR
section
variable {K : PySem.W.Frag} {mg : Str → Option Value}
theorem mkSum {T : Tx K mg} {H1 : Hp} {t x dx : Addr} {g : List Int} {m : Int} {R : Hp → Prop} {E : XK} (ht : H1 t = some (.tup (vi g))) (hl : g.length ≤ 20) (hx : H1 x = none) (hdx : H1 dx = none) (hq : ∀ H', SumAt T H' (.ref x) (srtI g, m) → Same H1 H' → R H') :
    spSumInit T [.ref x, .ref t, .int m] (upd (upd H1 dx (.own x)) x (.ins T.cSum dx [])) (fun v H2 => v = .non ∧ R H2) E := by
  have s0 : Same H1 (upd (upd H1 dx (.own x)) x (.ins T.cSum dx [])) := made_same hx hdx (Fr.refl _ _)
  exact ⟨x, dx, t, g, _, rfl, upd_same, s0 _ _ ht, hl, fun H' t' h1 h2 fr => ⟨rfl, hq H' ⟨x, dx, t', rfl, h1, h2⟩ (made_same hx hdx fr)⟩⟩
theorem mkLeaf {T : Tx K mg} {H1 : Hp} {a x dx : Addr} {us : List V} {ss : List (List Int × Int)} {R : Hp → Prop} {E : XK} (ha : H1 a = some (.lst us)) (hA : A2 (SumAt T H1) us ss) (hx : H1 x = none) (hdx : H1 dx = none) (hq : ∀ H', TrAt T H' (.ref x) (.leaf ss) → Same H1 H' → R H') :
    spLeafInit T [.ref x, .ref a] (upd (upd H1 dx (.own x)) x (.ins T.cLeaf dx [])) (fun v H2 => v = .non ∧ R H2) E := by
  have s0 : Same H1 (upd (upd H1 dx (.own x)) x (.ins T.cLeaf dx [])) := made_same hx hdx (Fr.refl _ _)
  refine ⟨x, dx, a, us, rfl, upd_same, s0 _ _ ha, fun H' t' h1 h2 fr => ⟨rfl, ?_⟩⟩
  have sm := made_same hx hdx fr
  exact hq H' ⟨x, dx, t', us, rfl, h1, h2, A2.mono (fun _ _ q => q.same sm) hA⟩ sm
theorem mkTest {T : Tx K mg} {H1 : Hp} {t x dx : Addr} {d l : Int} {n : Nat} {g : List Int} {y z : V} {a b : Tr} {R : Hp → Prop} {E : XK} (ed : d = n) (ht : H1 t = some (.tup (vi g))) (hl : g.length ≤ 20) (hy : TrAt T H1 y a) (hz : TrAt T H1 z b) (hx : H1 x = none) (hdx : H1 dx = none)
    (hq : ∀ H', TrAt T H' (.ref x) (.test n (srtI g) l a b) → Same H1 H' → R H') :
    spTestInit T [.ref x, .int d, .ref t, .int l, y, z] (upd (upd H1 dx (.own x)) x (.ins T.cTest dx [])) (fun v H2 => v = .non ∧ R H2) E := by
  subst ed
  have s0 : Same H1 (upd (upd H1 dx (.own x)) x (.ins T.cTest dx [])) := made_same hx hdx (Fr.refl _ _)
  refine ⟨x, dx, t, g, _, _, _, _, rfl, upd_same, s0 _ _ ht, hl, fun H' t' h1 h2 fr => ⟨rfl, ?_⟩⟩
  have sm := made_same hx hdx fr
  exact hq H' ⟨x, dx, t', y, z, rfl, h1, h2, hy.same sm, hz.same sm⟩ sm
end
section
variable {P : Program} {w : World} {K : PySem.W.Frag} {mg : Str → Option Value} {base : Heap}
theorem okGrowerLeaf (T : Tx K mg) : FnOk P w K mg base (L2.CX P w) 3 T.aGrowerLeaf T.dGrowerLeaf ["self", "shares"] (spGrowerLeaf T) := by
  refine T.fGrowerLeaf.okX scGrowerLeaf (fun vs H Q E h => ?_) (fun cdv A outer s H vs Q E hr h => ?_)
  · obtain ⟨g, a, caps, ds, n, l, rfl, _⟩ := h
    rfl
  · obtain ⟨g, a, caps, ds, n, l, rfl, ⟨dx, j, t, vs, g1, g2, g3, g4⟩, n24, ⟨us, u1, u2⟩, l6, ll, hq, hE⟩ := h
    refine ⟨_, (pss_cons (ps_fldaug (pv 0) pe_int in_add)
      (pss_cons (ps_if (pt_cmpR op_gt (pe_fld (pv 0) rfl) (pe_glob (v := .int 24) rfl T.cMOSTLEAVES ⟨_, rfl⟩) (nomark _)) (pss_one (ps_raise rfl (takes_of rfl rfl rfl rfl) (pmk_oex T.oWide T.iWide T.tWide (okWideInit T) (hr.mono (by decide)) T.bWideInit .nil pass0 rfl T.mWide (pa_cons (pe_fld (pv 0) rfl) pa_nil)))) pss_nil)
      (pss_one (ps_ret (pe_make T.kLeaf (okLeafInit T) (hr.mono (by decide)) rfl T.mLeaf T.bLeafInit .nil pass0 (pa_cons (pe_lc (own := [("share", 2)]) rfl scGrowerLeaf.nd (pi_list (pv 1)) (blkOk_by (own := [("share", 2)]) (N := ["self", "shares", "share"]) (sc := defScope sGrowerLeaf) (by decide +kernel)) (fun _ _ _ _ _ => (pg_name (i := 2) scGrowerLeaf.nd rfl (by first | exact Or.inl rfl | exact Or.inr rfl))) (fun _ _ _ _ _ => pts_nil) (fun _ _ _ _ _ => (pe_make T.kSum (okSumInit T) (hr.mono (by decide)) rfl T.mSum T.bSumInit .nil pass0 (pa_cons (show PE _ _ (tFld K _ "group") from (pe_fld (pv 2) rfl)) (pa_cons (show PE _ _ (tFld K _ "more") from (pe_fld (pv 2) rfl)) pa_nil))))) pa_nil)))))), ?_⟩
    refine ⟨_, rfl, g, _, dx, _, _, rfl, g1, T.lGrower, T.nGrower_leaves, lk3 (by decide +kernel) (by decide +kernel), _, _, rfl, rfl, dx, _, g1, (by show 3 < 1000; decide), ?_⟩
    have f : Fr g H (upd H g (.ins T.cGrower dx (putF "leaves" (.int ((n : Int) + 1)) (fgs (.ref j) (.ref t) (n : Int))))) := fr_mut (Fr.refl _ _)
    have k1 : (upd H g (.ins T.cGrower dx (putF "leaves" (.int ((n : Int) + 1)) (fgs (.ref j) (.ref t) (n : Int))))) g = some (.ins T.cGrower dx (fgs (.ref j) (.ref t) ((n + 1 : Nat) : Int))) := by
      rw [upd_same]
      rfl
    generalize upd H g (.ins T.cGrower dx (putF "leaves" (.int ((n : Int) + 1)) (fgs (.ref j) (.ref t) (n : Int)))) = H1 at f k1 ⊢
    have ag : a ≠ g := fun z => by rw [z, g1] at u1; cases u1
    refine ⟨_, rfl, g, _, dx, _, _, rfl, k1, T.lGrower, T.nGrower_leaves, lk3 (by decide +kernel) (by decide +kernel), _, _, rfl, rfl, _, rfl, ifD (fun c => ?_) (fun c => ?_)⟩
    · have e24 : n = 24 := by
        have c : (24 : Int) < ((n + 1 : Nat) : Int) := c
        omega
      subst e24
      have q := hE (by show 24 < 24 + 1; decide)
      refine ⟨_, rfl, g, _, dx, _, _, rfl, k1, T.lGrower, T.nGrower_leaves, lk3 (by decide +kernel) (by decide +kernel), (by show 1 ≤ 1000; decide), x1_made fun H' d hd sm => ?_⟩
      exact q H' d hd (f.trans (Fr.of sm))
    · have c : ¬ (24 : Int) < ((n + 1 : Nat) : Int) := c
      have q := hq (by show n + 1 ≤ 24; omega)
      have u1' := f _ _ ag u1
      have u2' : A2 (ShAt T H1) us l := A2.mono (fun _ _ q => q.fr f g1 bl_g) u2
      refine ⟨_, rfl, a, rfl, ⟨_, SqL.of u1'⟩, fun D hD => ?_⟩
      refine lc_list (K := K) (a := a) (xs := us) (fun i H' => ∃ ws, H' D = some (.lst ws) ∧ A2 (SumAt T H') ws ((l.map fun s => (srtI s.g, s.more)).take i) ∧ Same H1 H') ⟨[], upd_same, by simp [A2], same_new hD⟩ (fun i H' _ ⟨_, _, _, e⟩ => e.seq (SqL.of u1')) ?_ ?_
      · rintro i y H' hi ⟨ws, w1, w2, w3⟩
        obtain ⟨s, hs, hy⟩ := u2'.get hi
        have lt : i < l.length := (List.getElem?_eq_some_iff.mp hs).1
        obtain ⟨sp, sx, sg, rfl, y1, y2⟩ := hy.same w3
        refine ⟨rfl, _, rfl, sp, _, sx, _, _, rfl, y1, T.lShare, T.nShare_group, lk1, _, rfl, sp, _, sx, _, _, rfl, y1, T.lShare, T.nShare_more, lk2 (by decide +kernel), fun x dx hx hdx _ => mkSum y2 ?_ hx hdx fun H4 h4 s4 => ?_⟩
        · have := glen_at (l := l) lt
          rw [atS_of hs] at this
          omega
        · have fD : Fr D H4 (upd H4 D (.lst (ws ++ [.ref x]))) := fr_mut (Fr.refl _ _)
          have wl : ws.length ≤ 6 := by rw [w2.len, List.length_take, List.length_map]; omega
          refine ⟨ws, s4 _ _ w1, small1000 (by omega), ws ++ [.ref x], upd_same, ?_, same_mut (w3.trans s4) hD⟩
          have e : ((l.map fun s => (srtI s.g, s.more)).take (i + 1)) = ((l.map fun s => (srtI s.g, s.more)).take i) ++ [(srtI s.g, s.more)] := by
            rw [List.take_add_one, List.getElem?_map, hs]
            rfl
          rw [e]
          exact A2.app (A2.mono (fun _ _ q => (q.same s4).fr fD (s4 _ _ w1) bl_l) w2) ⟨h4.fr fD (s4 _ _ w1) bl_l, trivial⟩
      · rintro H' ⟨ws, w1, w2, w3⟩
        rw [List.take_of_length_le (by rw [List.length_map, u2'.len]; exact Nat.le_refl _)] at w2
        refine fun x dx' hx hdx _ => mkLeaf w1 w2 hx hdx fun H4 h4 s4 => ?_
        have s5 := w3.trans s4
        refine q H4 _ h4 ⟨dx, j, t, vs, s5 _ _ k1, (g2.fr f g1 bl_g).same s5, s5 _ _ (fr_no f g1 bl_g g3 nbT), A2.mono (fun _ _ q => (q.fr f g1 bl_g).same s5) g4⟩ (f.trans (Fr.of s5))
end
end Kp

namespace Kp
open PySem PySem.Spec PyProof.Rows L2 KpR
theorem fg_no {m : Str} {x y : V} {n : Int} (h1 : ¬ m = "jars") (h2 : ¬ m = "deeds") (h3 : ¬ m = "leaves") : (fgs x y n).lookup m = none := by
  unfold fgs
  rw [lkS h1, lkS h2, lkS h3]
  rfl
theorem A2int {α : Type} {R : V → α → Prop} {vs : List V} {ds : List α} {i k : Nat} {d : α} (h : A2 R vs ds) (e : ds[i + k]? = some d) : ∃ v, atI vs ((i : Int) + (k : Int)) = some v ∧ R v d := by
  obtain ⟨v, h1, _, h2⟩ := A2at h e
  exact ⟨v, h1, h2⟩
section
variable {P : Program} {w : World} {K : PySem.W.Frag} {mg : Str → Option Value} {base : Heap}
abbrev GrOk (P : Program) (w : World) (K : PySem.W.Frag) (mg : Str → Option Value) (base : Heap) (T : Tx K mg) (m : Nat) : Prop := FnOk P w K mg base (L2.CX P w) (2 * m + 20) T.aGrowerGrown T.dGrowerGrown ["self", "start", "shares"] (spGrown T m)
abbrev PtOk (P : Program) (w : World) (K : PySem.W.Frag) (mg : Str → Option Value) (base : Heap) (T : Tx K mg) (m : Nat) : Prop := FnOk P w K mg base (L2.CX P w) (2 * m + 19) T.aGrowerParted T.dGrowerParted ["self", "number", "shares"] (spParted T m)
theorem okGrown (T : Tx K mg) {m : Nat} (hP : PtOk P w K mg base T m) : GrOk P w K mg base T m := by
  refine T.fGrowerGrown.okX scGrowerGrown (fun vs H Q E h => ?_) (fun cdv A outer s H vs Q E hr0 h => ?_)
  · obtain ⟨g, a, i, caps, ds, n, l, rfl, _⟩ := h
    rfl
  · obtain ⟨g, a, i, caps, ds, n, l, rfl, hG, n24, c6, ok, hm, d20, hid, hA, hS, hq⟩ := h
    have hrP : Room (2 * m + 19) _ := hr0
    have hr : Room 19 _ := hr0.mono (by omega)
    refine ⟨_, (pss_cons (ps_for (passes_of rfl) rfl (pi_range2 rfl T.nrange (pa_cons (pv 1) (pa_cons (pe_callB call_len_seq rfl T.nlen PySem.boot_len (pa_cons (pe_fld (pv 0) rfl) pa_nil)) pa_nil))) (pg_name (i := 3) scGrowerGrown.nd rfl (by first | exact Or.inl rfl | exact Or.inr rfl)) (pss_cons (ps_set (i := 4) scGrowerGrown.nd rfl (by first | exact Or.inl rfl | exact Or.inr rfl) (pe_ix (r := rIxT K) ix_tup (pe_fld (pv 0) rfl) (pv 3) (fun _ _ => rfl)))
      (pss_cons (ps_if (pt_val (pe_call (okischoice T) (hr.mono (by decide)) rfl T.gischoice T.fischoice.kp T.bischoice .nil pass0 (pa_cons (pe_fld (pv 0) rfl) (pa_cons (pv 4) (pa_cons (pv 2) pa_nil))))) (pss_one (ps_ret (pe_meth (pv 0) T.lGrower T.meGrowerParted hP hrP T.bGrowerParted .nil (passes_call (W := fun c d _ H => E c d H) (takes_of rfl rfl rfl rfl) (fun _ _ _ _ h => h)) (pa_cons (pv 3) (pa_cons (pv 2) pa_nil))))) pss_nil)
      (pss_one (ps_set (i := 2) scGrowerGrown.nd rfl (by first | exact Or.inl rfl | exact Or.inr rfl) (pe_call (okonlyway T) (hr.mono (by decide)) rfl T.gonlyway T.fonlyway.kp T.bonlyway .nil pass0 (pa_cons (pe_fld (pv 0) rfl) (pa_cons (pv 4) (pa_cons (pv 2) pa_nil)))))))))
      (pss_one (ps_ret (pe_meth (pv 0) T.lGrower T.meGrowerLeaf (okGrowerLeaf T) (hr.mono (by decide)) T.bGrowerLeaf .nil (passes_call (W := fun c d _ H => E c d H) (takes_of rfl rfl rfl rfl) (fun _ _ _ _ h => h)) (pa_cons (pv 2) pa_nil))))), ?_⟩
    obtain ⟨dx, j, t, vs, g1, g2, g3, g4⟩ := id hG
    have gl := g4.len
    refine ⟨_, rfl, _, rfl, g, _, dx, _, _, rfl, g1, T.lGrower, T.nGrower_deeds, lk2 (by decide +kernel), t, _, rfl, .inr (SqT.of g3), _, _, rfl, ⟨by omega, by omega, by omega, by omega⟩, ?_⟩
    have eN : (((vs.length : Nat) : Int) - (i : Int)).toNat = ds.length - i := by omega
    show ∃ W, _
    refine for_range (lo := (i : Int)) (n := (((vs.length : Nat) : Int) - (i : Int)).toNat) (fun k σ H' => ∃ (v3 v4 : Option V) (a' : Addr) (l' : List Sh), σ = [some (.ref g), some (.int i), some (.ref a'), v3, v4] ∧ GrAt T H' g caps ds n ∧ ShsAt T H' a' l' ∧ Shs caps l' ∧
      grow caps i (ds.drop i) l = grow caps (i + k) (ds.drop (i + k)) l' ∧ Same H H') ⟨none, none, a, l, rfl, hG, hA, hS, rfl, Same.refl _⟩ ?_ ?_
    · rintro k σ H' hk ⟨v3, v4, a', l', rfl, hG', hA', hS', eq, sm⟩
      have hik : i + k < ds.length := by omega
      have hd : ds[i + k]? = some ds[i + k] := List.getElem?_eq_getElem hik
      generalize ds[i + k] = d at hd
      have okd := ok d (List.mem_of_getElem? hd)
      have hdrop : ds.drop (i + k) = d :: ds.drop (i + k + 1) := by
        rw [List.drop_eq_getElem_cons hik]
        congr 1
        have := List.getElem?_eq_getElem hik
        rw [hd] at this
        exact (Option.some.inj this).symm
      obtain ⟨dx', j', t', vs', k1, k2, k3, k4⟩ := id hG'
      obtain ⟨v, at_, hv⟩ := A2int k4 hd
      refine ⟨_, rfl, g, _, dx', _, _, rfl, k1, T.lGrower, T.nGrower_deeds, lk2 (by decide +kernel), _, rfl, t', _, _, _, rfl, rfl, SqT.of k3, at_, ?_⟩
      refine ⟨_, rfl, g, _, dx', _, _, rfl, k1, T.lGrower, T.nGrower_jars, lk1, _, rfl, _, rfl, j', a', v, d, caps, l', rfl, k2, hv, okd, hA', hS', fun H1 s1 => ?_⟩
      have h1 := k1
      have s01 := sm.trans s1
      refine ⟨_, rfl, ?_⟩
      cases ch : d.choice caps l' with
      | true =>
        refine ifT rfl ?_
        refine ⟨_, rfl, g, dx', _, rfl, s1 _ _ k1, fg_no (by decide +kernel) (by decide +kernel) (by decide +kernel), _, rfl, _, rfl, ?_⟩
        refine ⟨g, a', i + k, caps, ds, d, n, l', rfl, hG'.same s1, n24, c6, ok, by omega, d20, hd, ch, hA'.same s1, hS', ?_⟩
        rw [eq] at hq
        exact ⟨fun h H2 q h1 h2 f => hq.1 h H2 q h1 h2 ((Fr.of s01).trans f), fun h H2 dd e f => hq.2 h H2 dd e ((Fr.of s01).trans f)⟩
      | false =>
        refine ifF rfl ?_
        refine ⟨_, rfl, g, _, dx', _, _, rfl, s1 _ _ k1, T.lGrower, T.nGrower_jars, lk1, _, rfl, _, rfl, j', a', v, d, caps, l', rfl, k2.same s1, hv.same s1, okd, hA'.same s1, hS', fun H2 q h0 h2 s2 => ?_⟩
        refine ⟨_, _, q, _, rfl, (hG'.same s1).same s2, h2, hS'.only okd, ?_, s01.trans s2⟩
        rw [eq, hdrop]
        show (if d.choice caps l' = true then _ else _) = _
        rw [ch]
        rfl
    · rintro σ H' ⟨v3, v4, a', l', rfl, hG', hA', hS', eq, sm⟩
      rw [eN, show i + (ds.length - i) = ds.length by omega, List.drop_length] at eq
      obtain ⟨dx', j', t', vs', k1, k2, k3, k4⟩ := id hG'
      refine ⟨_, rfl, g, dx', _, rfl, k1, fg_no (by decide +kernel) (by decide +kernel) (by decide +kernel), _, rfl, ?_⟩
      refine ⟨g, a', caps, ds, n, l', rfl, hG', n24, hA', hS'.few, by rw [hS'.len]; exact c6, ?_⟩
      rw [eq] at hq
      exact ⟨fun h H2 q h1 h2 f => hq.1 h H2 q h1 h2 ((Fr.of sm).trans f), fun h H2 dd e f => hq.2 h H2 dd e ((Fr.of sm).trans f)⟩
theorem okParted (T : Tx K mg) {m : Nat} (hG : GrOk P w K mg base T m) : PtOk P w K mg base T (m + 1) := by
  refine T.fGrowerParted.okX scGrowerParted (fun vs H Q E h => ?_) (fun cdv A outer s H vs Q E hr0 h => ?_)
  · obtain ⟨g, a, i, caps, ds, d, n, l, rfl, _⟩ := h
    rfl
  · obtain ⟨g, a, i, caps, ds, d, n, l, rfl, gG, n24, c6, ok, hm, d20, hd, ch, hA, hS, hq⟩ := h
    have hrG : Room (2 * m + 20) _ := hr0
    have hr : Room 19 _ := hr0.mono (by omega)
    have hi : i < ds.length := (List.getElem?_eq_some_iff.mp hd).1
    have okd := ok d (List.mem_of_getElem? hd)
    have hdrop : ds.drop i = d :: ds.drop (i + 1) := by
      rw [List.drop_eq_getElem_cons hi]
      congr 1
      have := List.getElem?_eq_getElem hi
      rw [hd] at this
      exact (Option.some.inj this).symm
    have nc : d.ischange = false := by
      cases d <;> first | rfl | (exfalso; revert ch; simp [D.choice, D.ischange])
    have eq : grow caps i (ds.drop i) l = .test i (srtI (d.share l).g) (d.limit caps l) (grow caps (i + 1) (ds.drop (i + 1)) (d.way1 caps l)) (grow caps (i + 1) (ds.drop (i + 1)) (d.way2 caps l)) := by
      rw [hdrop]
      show (if d.choice caps l = true then _ else _) = _
      rw [ch]
      rfl
    rw [eq] at hq
    generalize hA1 : grow caps (i + 1) (ds.drop (i + 1)) (d.way1 caps l) = A1 at hq
    generalize hB1 : grow caps (i + 1) (ds.drop (i + 1)) (d.way2 caps l) = B1 at hq
    obtain ⟨q1, q2⟩ := hq
    have le : (Tr.test i (srtI (d.share l).g) (d.limit caps l) A1 B1).leaves = A1.leaves + B1.leaves := rfl
    rw [le] at q1 q2
    refine ⟨_, (pss_cons (ps_set (i := 3) scGrowerParted.nd rfl (by first | exact Or.inl rfl | exact Or.inr rfl) (pe_ix (r := rIxT K) ix_tup (pe_fld (pv 0) rfl) (pv 1) (fun _ _ => rfl)))
      (pss_cons (ps_set (i := 4) scGrowerParted.nd rfl (by first | exact Or.inl rfl | exact Or.inr rfl) (pe_meth (pv 0) T.lGrower T.meGrowerGrown hG hrG T.bGrowerGrown .nil (passes_call (W := fun c d _ H => E c d H) (takes_of rfl rfl rfl rfl) (fun _ _ _ _ h => h)) (pa_cons (pe_op op_add (pv 1) pe_int) (pa_cons (pe_call (okfirstway T) (hr.mono (by decide)) rfl T.gfirstway T.ffirstway.kp T.bfirstway .nil pass0 (pa_cons (pe_fld (pv 0) rfl) (pa_cons (pv 3) (pa_cons (pv 2) pa_nil)))) pa_nil))))
      (pss_cons (ps_set (i := 5) scGrowerParted.nd rfl (by first | exact Or.inl rfl | exact Or.inr rfl) (pe_meth (pv 0) T.lGrower T.meGrowerGrown hG hrG T.bGrowerGrown .nil (passes_call (W := fun c d _ H => E c d H) (takes_of rfl rfl rfl rfl) (fun _ _ _ _ h => h)) (pa_cons (pe_op op_add (pv 1) pe_int) (pa_cons (pe_call (oksecondway T) (hr.mono (by decide)) rfl T.gsecondway T.fsecondway.kp T.bsecondway .nil pass0 (pa_cons (pe_fld (pv 0) rfl) (pa_cons (pv 3) (pa_cons (pv 2) pa_nil)))) pa_nil))))
      (pss_one (ps_ret (pe_make T.kTest (okTestInit T) (hr.mono (by decide)) rfl T.mTest T.bTestInit .nil pass0 (pa_cons (pv 1) (pa_cons (pe_fld (pe_call (oktested T) (hr.mono (by decide)) rfl T.gtested T.ftested.kp T.btested .nil pass0 (pa_cons (pv 3) (pa_cons (pv 2) pa_nil))) rfl) (pa_cons (pe_call (oklimitof T) (hr.mono (by decide)) rfl T.glimitof T.flimitof.kp T.blimitof .nil pass0 (pa_cons (pe_fld (pv 0) rfl) (pa_cons (pv 3) (pa_cons (pv 2) pa_nil)))) (pa_cons (pv 4) (pa_cons (pv 5) pa_nil))))))))))), ?_⟩
    obtain ⟨dx, j, t, vs, g1, g2, g3, g4⟩ := id gG
    obtain ⟨v, at_, _, hv⟩ := A2at g4 hd
    refine ⟨_, rfl, g, _, dx, _, _, rfl, g1, T.lGrower, T.nGrower_deeds, lk2 (by decide +kernel), _, rfl, t, _, _, _, rfl, rfl, SqT.of g3, at_, ?_⟩
    refine ⟨_, rfl, g, dx, _, rfl, g1, fg_no (by decide +kernel) (by decide +kernel) (by decide +kernel), _, rfl, _, _, rfl, rfl, ?_⟩
    refine ⟨_, rfl, g, _, dx, _, _, rfl, g1, T.lGrower, T.nGrower_jars, lk1, _, rfl, _, rfl, j, a, v, d, caps, l, rfl, g2, hv, okd, hA, hS, nc, fun H1 c1 _ hc1 s1 => ?_⟩
    refine ⟨g, c1, i + 1, caps, ds, n, _, rfl, gG.same s1, n24, c6, ok, by omega, d20, by omega, hc1, hS.way1 okd, ?_⟩
    rw [hA1]
    refine ⟨fun h24 H2 x hx gG2 f2 => ?_, fun big H2 dd e f => q2 (by omega) H2 dd e ((Fr.of s1).trans f)⟩
    obtain ⟨o1, ho1, bo1⟩ := (gG.same s1).bl
    obtain ⟨us, u1, u2⟩ := id hA
    have ag : a ≠ g := gG.ne u1
    have hA2 := (hA.same s1).fr f2 ho1 bo1 ag
    have hv2 := (hv.same s1).fr f2 ho1 bo1
    have f02 : Fr g H H2 := (Fr.of s1).trans f2
    obtain ⟨dx2, j2, t2, vs2, k1, k2, k3, k4⟩ := id gG2
    refine ⟨_, rfl, g, dx2, _, rfl, k1, fg_no (by decide +kernel) (by decide +kernel) (by decide +kernel), _, rfl, _, _, rfl, rfl, ?_⟩
    refine ⟨_, rfl, g, _, dx2, _, _, rfl, k1, T.lGrower, T.nGrower_jars, lk1, _, rfl, _, rfl, j2, a, v, d, caps, l, rfl, k2, hv2, okd, hA2, hS, nc, fun H3 c3 _ hc3 s3 => ?_⟩
    refine ⟨g, c3, i + 1, caps, ds, n + A1.leaves, _, rfl, gG2.same s3, h24, c6, ok, by omega, d20, by omega, hc3, hS.way2 okd, ?_⟩
    rw [hB1]
    refine ⟨fun h24' H4 y hy gG4 f4 => ?_, fun big H4 dd e f => q2 (by omega) H4 dd e (f02.trans ((Fr.of s3).trans f))⟩
    obtain ⟨o3, ho3, bo3⟩ := (gG2.same s3).bl
    have hA4 := (hA2.same s3).fr f4 ho3 bo3 ag
    have hv4 := (hv2.same s3).fr f4 ho3 bo3
    have hx4 := (hx.same s3).fr f4 ho3 bo3
    have f04 : Fr g H H4 := f02.trans ((Fr.of s3).trans f4)
    obtain ⟨dx4, j4, t4, vs4, m1, m2, m3, m4⟩ := id gG4
    refine ⟨_, rfl, _, rfl, _, rfl, a, v, d, caps, l, rfl, hv4, okd, hA4, hS, fun H5 q hq5 s5 => ?_⟩
    obtain ⟨sp, sx, sg, rfl, y1, y2⟩ := hq5
    refine ⟨sp, _, sx, _, _, rfl, y1, T.lShare, T.nShare_group, lk1, ?_⟩
    refine ⟨_, rfl, g, _, dx4, _, _, rfl, s5 _ _ m1, T.lGrower, T.nGrower_jars, lk1, _, rfl, _, rfl, j4, a, v, d, caps, l, rfl, m2.same s5, hv4.same s5, okd, hA4.same s5, hS, nc, fun H6 s6 => ?_⟩
    have s56 := s5.trans s6
    refine ⟨_, rfl, _, rfl, fun x' dx' hx' hdx' _ => mkTest rfl (s6 _ _ y2) (Nat.le_trans (D.share_len hS okd) (by decide)) (hx4.same s56) (hy.same s56) hx' hdx' fun H7 h7 s7 => ?_⟩
    refine q1 (by omega) H7 _ h7 ?_ (f04.trans (Fr.of (s56.trans s7)))
    have := gG4.same (s56.trans s7)
    rw [Nat.add_assoc] at this
    exact this
theorem noParted (T : Tx K mg) : PtOk P w K mg base T 0 := by
  have no : ∀ vs H Q E, ¬ spParted T 0 vs H Q E := fun vs H Q E h => by
    obtain ⟨g, a, i, caps, ds, d, n, l, rfl, gG, n24, c6, ok, hm, d20, hd, _⟩ := h
    have hi : i < ds.length := (List.getElem?_eq_some_iff.mp hd).1
    omega
  exact ⟨fun vs H Q E h => absurd h (no vs H Q E), fun A outer s H args us vs Q E _ _ _ _ h => absurd h (no vs H Q E)⟩
theorem okGrAll (T : Tx K mg) : ∀ m : Nat, GrOk P w K mg base T m
  | 0 => okGrown T (noParted T)
  | m + 1 => okGrown T (okParted T (okGrAll T m))
theorem oktreeof (T : Tx K mg) : FnOk P w K mg base (L2.CX P w) 61 T.atreeof T.dtreeof ["row"] (sptreeof T) := by
  refine T.ftreeof.okX sctreeof (fun vs H Q E h => ?_) (fun cdv A outer s H vs Q E hr h => ?_)
  · obtain ⟨r, caps, ds, rfl, _⟩ := h
    rfl
  · obtain ⟨r, caps, ds, rfl, hR, c6, ok, d20, hq, hE⟩ := h
    have hG := okGrAll (P := P) (w := w) (base := base) T 20
    have hrG : Room (2 * 20 + 20) _ := hr
    refine ⟨_, (pss_one (ps_ret (pe_meth (pe_make T.kGrower (okGrowerInit T) (hr.mono (by decide)) rfl T.mGrower T.bGrowerInit .nil pass0 (pa_cons (pv 0) pa_nil)) T.lGrower T.meGrowerGrown hG hrG T.bGrowerGrown .nil (passes_call (W := fun c d _ H => E c d H) (takes_of rfl rfl rfl rfl) (fun _ _ _ _ h => h)) (pa_cons pe_int (pa_cons (pe_call (okfirstshares T) (hr.mono (by decide)) rfl T.gfirstshares T.ffirstshares.kp T.bfirstshares .nil pass0 (pa_cons (pe_fld (pv 0) rfl) pa_nil)) pa_nil))))), ?_⟩
    refine ⟨_, rfl, fun x dx hx hdx ne => ?_⟩
    have s0 : Same H (upd (upd H dx (.own x)) x (.ins T.cGrower dx [])) := made_same hx hdx (Fr.refl _ _)
    refine ⟨x, dx, r, caps, ds, rfl, upd_same, hR.same s0, fun H1 gG fr => ⟨rfl, ?_⟩⟩
    have s1 := made_same hx hdx fr
    obtain ⟨dx1, j, t, vs, g1, g2, g3, g4⟩ := id gG
    refine ⟨x, dx1, _, rfl, g1, fg_no (by decide +kernel) (by decide +kernel) (by decide +kernel), ?_⟩
    obtain ⟨rx, rj, rt, rvs, r1, r2, r3, r4⟩ := hR.same s1
    refine ⟨_, rfl, r, _, rx, _, _, rfl, r1, T.lRow, T.nRow_jars, lk1, rj, caps, rfl, r2, c6, fun H2 c hc0 hc s2 => ?_⟩
    refine ⟨x, c, 0, caps, ds, 0, _, rfl, gG.same s2, Nat.zero_le _, c6, ok, by omega, d20, Nat.zero_le _, hc, Shs.first c6, ?_⟩
    have s12 := s1.trans s2
    have back : ∀ H', Fr x H2 H' → Same H H' := fun H' f b o e => f b o (ne_of_none e hx) (s12 _ _ e)
    rw [List.drop_zero]
    refine ⟨fun h H3 q h3 _ f => ?_, fun h H3 dd e f => ?_⟩
    · rw [Nat.zero_add] at h
      exact hq h H3 q h3 (back _ f)
    · rw [Nat.zero_add] at h
      exact hE h H3 dd e (back _ f)
end
end Kp

namespace Kp
open PySem PySem.Spec PyProof.Rows L2 KpR
theorem ixN_lastT {n : Nat} : ixN (n + 1) (-1) = some n := by
  have e : atI (List.range n ++ [n]) (-1) = some n := atI_last _ _
  unfold atI at e
  have hl : (List.range n ++ [n]).length = n + 1 := by simp
  rw [hl] at e
  cases z : ixN (n + 1) (-1) with
  | none => rw [z] at e; cases e
  | some j =>
    rw [z, ← List.range_succ] at e
    have e2 : (List.range (n + 1))[j]? = some n := e
    have hj := (List.getElem?_eq_some_iff.mp e2).2
    rw [List.getElem_range] at hj
    exact congrArg some hj
theorem vi_setT {l : List Int} {i : Nat} {z : Int} : (vi l).set i (.int z) = vi (l.set i z) := (List.map_set ..).symm
def D.word : D → Str
  | .pour _ _ => "pour"
  | .put _ _ => "put"
  | .draw _ _ => "draw"
  | .change _ _ => "change"
def D.last : D → Int
  | .pour _ b => b
  | .put _ k => k
  | .draw _ k => k
  | .change _ b => b
def FactAt (H : Hp) (v : V) (d : D) : Prop := ∃ t, v = .ref t ∧ H t = some (.tup [.str d.word, .int d.fst, .int d.last])
theorem FactAt.same {H H' : Hp} {v : V} {d : D} (e : Same H H') (h : FactAt H v d) : FactAt H' v d := by
  obtain ⟨t, rfl, h⟩ := h
  exact ⟨t, rfl, e _ _ h⟩
theorem FactAt.fr {w : Addr} {H H' : Hp} {u : HO} {v : V} {d : D} (e : Fr w H H') (hw : H w = some u) (hb : Blank u) (h : FactAt H v d) : FactAt H' v d := by
  obtain ⟨t, rfl, h⟩ := h
  exact ⟨t, rfl, fr_no e hw hb h nbT⟩
theorem one01 (c : Bool) : -2 ^ 64 < (if c = true then (1 : Int) else 0) ∧ (if c = true then (1 : Int) else 0) < 2 ^ 64 := by
  cases c <;> decide
def StateAt (H : Hp) (s : Addr) : Prop := ∃ x y z : Int, H s = some (.lst [.int x, .int y, .int z]) ∧ 0 ≤ y ∧ y ≤ 4294967296
theorem StateAt.ex {H : Hp} {s : Addr} (h : StateAt H s) : ∃ u, H s = some u ∧ Blank u := by
  obtain ⟨a, b, c, q, _⟩ := h
  exact ⟨_, q, bl_l⟩
theorem StateAt.new {H : Hp} {w p : Addr} {o : HO} (h : StateAt H w) (n : H p = none) : StateAt (upd H p o) w := by
  obtain ⟨a, b, c, q, r⟩ := h
  exact ⟨a, b, c, (same_new n) _ _ q, r⟩
theorem StateAt.ne {H : Hp} {w p : Addr} (h : StateAt H w) (n : H p = none) : p ≠ w := fun z => by
  obtain ⟨a, b, c, q, r⟩ := h
  rw [← z, n] at q
  cases q
theorem StateAt.mut {H : Hp} {w p : Addr} {o : HO} (h : StateAt H w) (n : p ≠ w) : StateAt (upd H p o) w := by
  obtain ⟨a, b, c, q, r⟩ := h
  exact ⟨a, b, c, by rw [upd_ne n.symm]; exact q, r⟩
theorem StateAt.same {H H' : Hp} {w : Addr} (h : StateAt H w) (e : Same H H') : StateAt H' w := by
  obtain ⟨a, b, c, q, r⟩ := h
  exact ⟨a, b, c, e _ _ q, r⟩
section
variable {K : PySem.W.Frag} {mg : Str → Option Value}
def spLstate (T : Tx K mg) : Sp := fun vs H Q _ => ∃ n : Int, vs = [.int n] ∧ ∀ (H' : Hp) (p : Addr), H p = none → StateAt H' p → Same H H' → Q (.ref p) H'
def spLdigit (T : Tx K mg) : Sp := fun vs H Q _ => ∃ (s : Addr) (m : Int), vs = [.ref s, .int m] ∧ StateAt H s ∧ 1 ≤ m ∧ m < 2 ^ 100 ∧ ∀ (H' : Hp) (v : Nat), (v : Int) < m → StateAt H' s → Fr s H H' → Q (.int v) H'
end
section
variable {P : Program} {w : World} {K : PySem.W.Frag} {mg : Str → Option Value} {base : Heap}
theorem okLstate (T : Tx K mg) : FnOk P w K mg base CX0 1 T.aLstate T.dLstate ["_law_source"] (spLstate T) := by
  refine T.fLstate.ok scLstate (fun vs H Q E h => ?_) (fun cdv A outer s H vs Q E hr h => ?_)
  · obtain ⟨n, rfl, _⟩ := h
    rfl
  · obtain ⟨n, rfl, hq⟩ := h
    refine ⟨_, (pss_cons (ps_set (i := 0) scLstate.nd rfl (by first | exact Or.inl rfl | exact Or.inr rfl) (pe_callB call_abs rfl T.nabs (by decide +kernel) (pa_cons (pv 0) pa_nil)))
      (pss_one (ps_ret (pe_lst (pa_cons (pe_op op_mul (pv 0) (pe_callTy call_int1 rfl T.nint (by decide +kernel) (pa_cons (pe_cmpR op_ge (pv 0) (pe_op op_pow pe_int pe_int) (nomark _)) pa_nil))) (pa_cons (pe_op op_add (pe_op op_mod (pv 0) pe_int) pe_int) (pa_cons (pe_op op_mod (pv 0) pe_int) pa_nil))))))), ?_⟩
    refine ⟨_, rfl, n, rfl, ?_⟩
    refine ⟨_, rfl, _, rfl, _, _, rfl, rfl, ⟨by decide, by decide, by decide⟩, _, _, rfl, rfl, .inr ⟨_, rfl, _, _, rfl, rfl, .inr (one01 _), ?_⟩⟩
    refine ⟨_, rfl, _, _, rfl, rfl, (by show (0 : Int) < 2147483629; decide), _, _, rfl, rfl, _, rfl, _, _, rfl, rfl, (by show (0 : Int) < 2147483587; decide), (by show 3 ≤ sizeLine; decide), fun p hp => ?_⟩
    refine hq _ p hp ⟨_, _, _, upd_same, ?_, ?_⟩ (same_new hp)
    · have := Int.emod_nonneg (if n < 0 then -n else n) (show (2147483629 : Int) ≠ 0 by decide)
      omega
    · have := Int.emod_lt_of_pos (if n < 0 then -n else n) (show (0 : Int) < 2147483629 by decide)
      omega
theorem okLdigit (T : Tx K mg) : FnOk P w K mg base CX0 1 T.aLdigit T.dLdigit ["_law_state_here", "_law_base"] (spLdigit T) := by
  refine T.fLdigit.ok scLdigit (fun vs H Q E h => ?_) (fun cdv A outer s H vs Q E hr h => ?_)
  · obtain ⟨u, m, rfl, _⟩ := h
    rfl
  · obtain ⟨u, m, rfl, ⟨a, b, c, hw, b0, b1⟩, m1, m2, hq⟩ := h
    refine ⟨_, (pss_cons (ps_if (pt_cmpR op_gt (pe_ix (r := rIxL K) ix_list (pv 0) pe_int (fun _ _ => rfl)) pe_int (nomark _)) (pss_cons (ps_set (i := 2) scLdigit.nd rfl (by first | exact Or.inl rfl | exact Or.inr rfl) (pe_op op_mod (pe_ix (r := rIxL K) ix_list (pv 0) pe_int (fun _ _ => rfl)) (pv 1)))
      (pss_cons (ps_asg (pe_op op_fdivW (pe_ix (r := rIxL K) ix_list (pv 0) pe_int (fun _ _ => rfl)) (pv 1)) (pg_sub (pv 0) pe_int set_list))
      (pss_one (ps_ret (pv 2))))) pss_nil)
      (pss_cons (ps_set (i := 3) scLdigit.nd rfl (by first | exact Or.inl rfl | exact Or.inr rfl) (pe_op op_mul (pe_ix (r := rIxL K) ix_list (pv 0) pe_int (fun _ _ => rfl)) (pe_op op_add (pe_op op_fdivW (pe_ix (r := rIxL K) ix_list (pv 0) pe_int (fun _ _ => rfl)) pe_int) pe_int)))
      (pss_cons (ps_asg (pe_op op_add (pe_op op_mod (pe_op op_add (pv 3) (pe_ix (r := rIxL K) ix_list (pv 0) pe_int (fun _ _ => rfl))) pe_int) pe_int) (pg_sub (pv 0) pe_int set_list))
      (pss_one (ps_ret (pe_op op_mod (pe_op op_fdivW (pe_ix (r := rIxL K) ix_list (pv 0) pe_int (fun _ _ => rfl)) pe_int) (pv 1))))))), ?_⟩
    have wd : CDivW a m := wide_div (b := 100) (by omega) (by omega) (by decide) (by decide)
    have back : ∀ (x : Int) (H' : Hp), StateAt H' u → Fr u H H' → Q (.int (x % m)) H' := fun x H' h1 h2 => by
      have q0 := Int.emod_nonneg x (show m ≠ 0 by omega)
      have q1 := Int.emod_lt_of_pos x (show 0 < m by omega)
      have e : x % m = ((x % m).toNat : Int) := by omega
      rw [e]
      exact hq H' _ (by omega) h1 h2
    refine ⟨_, rfl, u, _, _, _, rfl, rfl, SqL.of hw, rfl, _, _, rfl, rfl, _, rfl, ifD (fun _ => ?_) (fun _ => ?_)⟩
    · refine ⟨_, rfl, u, _, _, _, rfl, rfl, SqL.of hw, rfl, _, rfl, _, _, rfl, rfl, (by show 0 < m; omega), ?_⟩
      refine ⟨_, rfl, u, _, _, _, rfl, rfl, SqL.of hw, rfl, _, rfl, _, _, rfl, rfl, wd, _, rfl, u, _, _, 0, rfl, rfl, hw, rfl, _, rfl, ?_⟩
      exact back a _ ⟨_, _, _, upd_same, b0, b1⟩ (fr_mut (Fr.refl _ _))
    · refine ⟨_, rfl, u, _, _, _, rfl, rfl, SqL.of hw, rfl, _, rfl, u, _, _, _, rfl, rfl, SqL.of hw, rfl, _, _, rfl, rfl, ⟨by decide, by decide⟩, _, _, rfl, rfl, _, _, rfl, rfl, .inl ⟨by omega, by omega⟩, ?_⟩
      refine ⟨_, rfl, _, rfl, u, _, _, _, rfl, rfl, SqL.of hw, rfl, _, _, rfl, rfl, _, _, rfl, rfl, (by show (0 : Int) < 2147483629; decide), _, _, rfl, rfl, _, rfl, u, _, _, 1, rfl, rfl, hw, rfl, ?_⟩
      refine ⟨_, rfl, u, _, _, _, rfl, rfl, SqL.of upd_same, rfl, _, _, rfl, rfl, ⟨by decide, by decide⟩, _, rfl, _, _, rfl, rfl, (by show 0 < m; omega), ?_⟩
      refine back _ _ ⟨_, _, _, upd_same, ?_, ?_⟩ (fr_mut (Fr.refl _ _))
      · have := Int.emod_nonneg (b * (b / 1009 + 69621) + c) (show (2147483629 : Int) ≠ 0 by decide)
        omega
      · have := Int.emod_lt_of_pos (b * (b / 1009 + 69621) + c) (show (0 : Int) < 2147483629 by decide)
        omega
end
end Kp

namespace Kp
open PySem PySem.Spec PyProof.Rows L2 KpR
/-- a deed of any amount from 1 on -/
def D.ok1 (caps : List Int) : D → Prop
  | .pour a b => a < caps.length ∧ b < caps.length ∧ a ≠ b
  | .put a k => a < caps.length ∧ 1 ≤ k ∧ k ≤ at0 caps a + 1
  | .draw a k => a < caps.length ∧ 1 ≤ k ∧ k ≤ at0 caps a + 1
  | .change a b => a < caps.length ∧ b < caps.length ∧ a ≠ b ∧ at0 caps a = at0 caps b
theorem cutAll {p : Hp → Prop} {b : Bool} {X C : Hp → Prop} (rest : ∀ h, p h → C h) (go : b = true → (∀ h, p h → C h) → ∀ h, p h → X h) : ∀ h, p h → if b = true then X h else C h := fun h s => by
  cases b with
  | true => exact ifT rfl (go rfl rest h s)
  | false => exact ifF rfl (rest h s)
section
variable {K : PySem.W.Frag} {mg : Str → Option Value}
def spLdeed (T : Tx K mg) : Sp := fun vs H Q _ => ∃ (s c : Addr) (caps : List Int), vs = [.ref s, .ref c] ∧ StateAt H s ∧ H c = some (.lst (vi caps)) ∧ c ≠ s ∧ Caps caps ∧
  ∀ (H' : Hp) (p : Addr) (d : D), H p = none → FactAt H' (.ref p) d → d.ok1 caps → StateAt H' s → Fr s H H' → Q (.ref p) H'
def spLhouse (T : Tx K mg) : Sp := fun vs H Q _ => ∃ (s : Addr) (j m : Int) (n : Nat), vs = [.ref s, .int j, .int m, .int n] ∧ StateAt H s ∧ 1 ≤ j ∧ j ≤ 6 ∧ 1 ≤ m ∧ m ≤ 1000000000000 ∧ n ≤ 20 ∧
  ∀ (H' : Hp) (p c f : Addr) (caps : List Int) (ts : List V) (ds : List D), H p = none → H' p = some (.tup [.ref c, .ref f]) → H c = none → H' c = some (.lst (vi caps)) → Caps caps → MidN m caps → caps.length = j.toNat → H f = none → H' f = some (.lst ts) → A2 (FactAt H') ts ds → ds.length = n → (∀ d ∈ ds, d.ok1 caps) → StateAt H' s → Fr s H H' → Q (.ref p) H'
end
section
variable {P : Program} {w : World} {K : PySem.W.Frag} {mg : Str → Option Value} {base : Heap}
theorem okLdeed (T : Tx K mg) : FnOk P w K mg base CX0 2 T.aLdeed T.dLdeed ["_law_s", "_law_sizes"] (spLdeed T) := by
  refine T.fLdeed.ok scLdeed (fun vs H Q E h => ?_) (fun cdv A outer s H vs Q E hr h => ?_)
  · obtain ⟨s, c, caps, rfl, _⟩ := h
    rfl
  · obtain ⟨s, c, caps, rfl, hs, hc, cs, hC, hq⟩ := h
    refine ⟨_, (pss_cons (ps_set (i := 2) scLdeed.nd rfl (by first | exact Or.inl rfl | exact Or.inr rfl) (pe_callB call_len_seq rfl T.nlen PySem.boot_len (pa_cons (pv 1) pa_nil)))
      (pss_cons (ps_set (i := 3) scLdeed.nd rfl (by first | exact Or.inl rfl | exact Or.inr rfl) (pe_call (okLdigit T) (hr.mono (by decide)) rfl T.gLdigit T.fLdigit.kp T.bLdigit .nil pass0 (pa_cons (pv 0) (pa_cons (pv 2) pa_nil))))
      (pss_cons (ps_set (i := 4) scLdeed.nd rfl (by first | exact Or.inl rfl | exact Or.inr rfl) (pe_call (okLdigit T) (hr.mono (by decide)) rfl T.gLdigit T.fLdigit.kp T.bLdigit .nil pass0 (pa_cons (pv 0) (pa_cons pe_int pa_nil))))
      (pss_cons (ps_if (PW.pt (pw_and (pt_cmpR op_gt (pv 2) pe_int (nomark _)) (pw_and1 (pt_cmpR op_lt (pv 4) pe_int (nomark _))))) (pss_cons (ps_set (i := 5) scLdeed.nd rfl (by first | exact Or.inl rfl | exact Or.inr rfl) (pe_op op_mod (pe_op op_add (pe_op op_add (pv 3) pe_int) (pe_call (okLdigit T) (hr.mono (by decide)) rfl T.gLdigit T.fLdigit.kp T.bLdigit .nil pass0 (pa_cons (pv 0) (pa_cons (pe_op op_sub (pv 2) pe_int) pa_nil)))) (pv 2)))
      (pss_cons (ps_if (PW.pt (pw_and (pt_cmpR op_eq (pv 4) pe_int (nomark _)) (pw_and1 (pt_cmpR op_eq (pe_ix (r := rIxL K) ix_list (pv 1) (pv 3) (fun _ _ => rfl)) (pe_ix (r := rIxL K) ix_list (pv 1) (pv 5) (fun _ _ => rfl)) (nomark _))))) (pss_one (ps_ret (pe_tup (pa_cons pe_str (pa_cons (pv 3) (pa_cons (pv 5) pa_nil)))))) pss_nil)
      (pss_one (ps_ret (pe_tup (pa_cons pe_str (pa_cons (pv 3) (pa_cons (pv 5) pa_nil)))))))) pss_nil)
      (pss_one (ps_ret (pe_tup (pa_cons (pe_ix (r := rIxL K) ix_list (pe_lst (pa_cons pe_str (pa_cons pe_str pa_nil))) (pe_op op_mod (pv 4) pe_int) (fun _ _ => rfl)) (pa_cons (pv 3) (pa_cons (pe_op op_add pe_int (pe_call (okLdigit T) (hr.mono (by decide)) rfl T.gLdigit T.fLdigit.kp T.bLdigit .nil pass0 (pa_cons (pv 0) (pa_cons (pe_op op_add (pe_ix (r := rIxL K) ix_list (pv 1) (pv 3) (fun _ _ => rfl)) pe_int) pa_nil)))) pa_nil)))))))))), ?_⟩
    have c1 := hC.l1
    have c6 := hC.l6
    have vl : (vi caps).length = caps.length := List.length_map ..
    refine ⟨_, rfl, c, _, rfl, .inl (SqL.of hc), ?_⟩
    rw [vl]
    refine ⟨_, rfl, _, rfl, s, _, rfl, hs, by omega, by omega, fun H1 a la s1 f1 => ?_⟩
    refine ⟨_, rfl, s, 8, rfl, s1, by decide, by decide, fun H2 k lk s2 f2 => ?_⟩
    have ha : a < caps.length := by omega
    have c2 := f2 _ _ cs (f1 _ _ cs hc)
    have f12 := f1.trans f2
    -- put or draw
    have fin : ∀ H3, StateAt H3 s → Fr s H H3 → H3 c = some (.lst (vi caps)) → ∀ (w0 : Str) (mk : Nat → Int → D), (∀ x z, (mk x z).word = w0 ∧ (mk x z).fst = x ∧ (mk x z).last = z ∧ (1 ≤ z → z ≤ at0 caps x + 1 → x < caps.length → (mk x z).ok1 caps)) → ∀ (H4 : Hp) (y : Nat) (p : Addr), (y : Int) < at0 caps a + 1 → StateAt H4 s → Fr s H3 H4 → H4 p = none → Q (.ref p) (upd H4 p (.tup [.str w0, .int a, .int (1 + (y : Int))])) := fun H3 s3 f3 hc3 w0 mk hm H4 y p ly s4 f4 hp => by
      have fA := f3.trans f4
      obtain ⟨e1, e2, e3, e4⟩ := hm a (1 + (y : Int))
      refine hq _ p (mk a (1 + (y : Int))) (fr_free fA (s4.ne hp) hp) ⟨p, rfl, ?_⟩ (e4 (by omega) (by omega) ha) (s4.new hp) (fA.trans (Fr.of (same_new hp)))
      rw [upd_same, e1, e2, e3]
    have pr : StateAt H2 s ∧ Fr s H H2 ∧ H2 c = some (.lst (vi caps)) := ⟨s2, f12, c2⟩
    clear s2 f12 c2 f2
    refine ⟨_, rfl, _, _, rfl, rfl, _, rfl, ?_⟩
    revert H2
    refine cutAll (fun H3 ⟨s3, f3, c3⟩ => ?_) fun g1 go H3 pr => ?_
    · refine ⟨(by show 2 ≤ sizeLine; decide), fun l hl => ?_⟩
      have ls := s3.ne hl
      have sl := same_new (o := HO.lst [V.str "put", V.str "draw"]) hl
      refine ⟨_, rfl, _, _, rfl, rfl, (by show (0 : Int) < 2; decide), ?_⟩
      have k2 : (k : Int) % 2 = 0 ∨ (k : Int) % 2 = 1 := by omega
      rcases k2 with e | e
      · refine ⟨l, _, _, V.str "put", rfl, rfl, SqL.of upd_same, (by show atI _ ((k : Int) % 2) = _; rw [e]; rfl), _, rfl, _, rfl, _, rfl, _, rfl, c, _, _, _, rfl, rfl, SqL.of (sl _ _ c3), vi_at ha, _, _, rfl, rfl, s, _, rfl, s3.same sl, ?_, ?_, fun H4 y ly s4 f4 => ⟨_, _, rfl, rfl, (by show 3 ≤ sizeLine; decide), fun p hp => ?_⟩⟩
        · have := hC.lo a ha
          show (1 : Int) ≤ at0 caps a + 1
          omega
        · have := hC.hi a ha
          show at0 caps a + 1 < 2 ^ 100
          omega
        · exact fin _ (s3.same sl) (f3.trans (Fr.of sl)) (sl _ _ c3) "put" D.put (fun _ _ => ⟨rfl, rfl, rfl, fun h1 h2 h3 => ⟨h3, h1, h2⟩⟩) H4 y p ly s4 f4 hp
      · refine ⟨l, _, _, V.str "draw", rfl, rfl, SqL.of upd_same, (by show atI _ ((k : Int) % 2) = _; rw [e]; rfl), _, rfl, _, rfl, _, rfl, _, rfl, c, _, _, _, rfl, rfl, SqL.of (sl _ _ c3), vi_at ha, _, _, rfl, rfl, s, _, rfl, s3.same sl, ?_, ?_, fun H4 y ly s4 f4 => ⟨_, _, rfl, rfl, (by show 3 ≤ sizeLine; decide), fun p hp => ?_⟩⟩
        · have := hC.lo a ha
          show (1 : Int) ≤ at0 caps a + 1
          omega
        · have := hC.hi a ha
          show at0 caps a + 1 < 2 ^ 100
          omega
        · exact fin _ (s3.same sl) (f3.trans (Fr.of sl)) (sl _ _ c3) "draw" D.draw (fun _ _ => ⟨rfl, rfl, rfl, fun h1 h2 h3 => ⟨h3, h1, h2⟩⟩) H4 y p ly s4 f4 hp
    · obtain ⟨s3, f3, c3⟩ := id pr
      have g1 := of_decide_eq_true g1
      refine ⟨_, rfl, _, _, rfl, rfl, _, rfl, ifD (fun g5 => ?_) fun _ => go H3 pr⟩
      refine ⟨_, rfl, _, _, rfl, rfl, _, rfl, _, rfl, _, _, rfl, rfl, s, _, rfl, s3, by omega, by omega, fun H4 y ly s4 f4 => ⟨_, _, rfl, rfl, _, rfl, _, _, rfl, rfl, (by show (0 : Int) < (caps.length : Int); omega), ?_⟩⟩
      obtain ⟨b, eb, hb, hab⟩ : ∃ b : Nat, ((a : Int) + 1 + (y : Int)) % (caps.length : Int) = (b : Int) ∧ b < caps.length ∧ a ≠ b := by
        refine ⟨(a + 1 + y) % caps.length, (by rw [Int.natCast_emod, Int.natCast_add, Int.natCast_add]; rfl), Nat.mod_lt _ (by omega), ?_⟩
        have hy : y + 1 < caps.length := by omega
        by_cases g : a + 1 + y < caps.length
        · rw [Nat.mod_eq_of_lt g]
          omega
        · have : (a + 1 + y) % caps.length = a + 1 + y - caps.length := by
            rw [Nat.mod_eq_sub_mod (by omega), Nat.mod_eq_of_lt (by omega)]
          omega
      refine (congrArg (fun z : Int => gName 5 (V.int z) _ _ _) eb).mpr ?_
      have c4 := f4 _ _ cs c3
      have f04 := f3.trans f4
      have end_ : ∀ (w0 : Str) (d : D), d.word = w0 → d.fst = a → d.last = (b : Int) → d.ok1 caps → ∀ p, H4 p = none → Q (.ref p) (upd H4 p (.tup [.str w0, .int a, .int b])) := fun w0 d e1 e2 e3 e4 p hp => by
        refine hq _ p d (fr_free f04 (s4.ne hp) hp) ⟨p, rfl, ?_⟩ e4 (s4.new hp) (f04.trans (Fr.of (same_new hp)))
        rw [upd_same, e1, e2, e3]
      have pour := end_ "pour" (.pour a b) rfl rfl rfl ⟨ha, hb, hab⟩
      refine ⟨_, rfl, rfl, _, rfl, ifD (fun _ => ?_) fun _ => ifF rfl ⟨_, rfl, _, rfl, (by show 3 ≤ sizeLine; decide), pour⟩⟩
      refine ⟨_, rfl, _, rfl, c, _, _, _, rfl, rfl, SqL.of c4, vi_at ha, _, rfl, _, rfl, c, _, _, _, rfl, rfl, SqL.of c4, vi_at hb, rfl, _, rfl, ifD (fun e => ?_) fun _ => ⟨_, rfl, _, rfl, (by show 3 ≤ sizeLine; decide), pour⟩⟩
      injection e with e
      exact ⟨_, rfl, _, rfl, (by show 3 ≤ sizeLine; decide), end_ "change" (.change a b) rfl rfl rfl ⟨ha, hb, hab, e⟩⟩
theorem okLhouse (T : Tx K mg) : FnOk P w K mg base CX0 3 T.aLhouse T.dLhouse ["_law_s", "_law_jars", "_law_most", "_law_deeds"] (spLhouse T) := by
  refine T.fLhouse.ok scLhouse (fun vs H Q E h => ?_) (fun cdv A outer s H vs Q E hr h => ?_)
  · obtain ⟨s, j, m, n, rfl, _⟩ := h
    rfl
  · obtain ⟨s, j, m, n, rfl, hs, j1, j5, m1, m2, n20, hq⟩ := h
    refine ⟨_, (pss_cons (ps_set (i := 4) scLhouse.nd rfl (by first | exact Or.inl rfl | exact Or.inr rfl) (pe_lc (own := [("_law_k", 5)]) rfl scLhouse.nd (pi_range1 rfl T.nrange (pa_cons (pv 1) pa_nil)) (blkOk_by (own := [("_law_k", 5)]) (N := ["_law_s", "_law_jars", "_law_most", "_law_deeds", "_law_sizes", "_law_k"]) (sc := defScope sLhouse) (by decide +kernel)) (fun _ _ _ _ _ => (pg_name (i := 5) scLhouse.nd rfl (by first | exact Or.inl rfl | exact Or.inr rfl))) (fun _ _ _ _ _ => pts_nil) (fun _ _ _ _ _ => (pe_op op_add pe_int (pe_call (okLdigit T) (hr.mono (by decide)) rfl T.gLdigit T.fLdigit.kp T.bLdigit .nil pass0 (pa_cons (pv 0) (pa_cons (pv 2) pa_nil)))))))
      (C8.pss_cut (ps_if (pt_cmpR op_eq (pe_call (okLdigit T) (hr.mono (by decide)) rfl T.gLdigit T.fLdigit.kp T.bLdigit .nil pass0 (pa_cons (pv 0) (pa_cons pe_int pa_nil))) pe_int (nomark _)) (pss_one (ps_asg (pe_ix (r := rIxL K) ix_list (pv 4) pe_int (fun _ _ => rfl)) (pg_sub (pv 4) (pe_un un_neg pe_int) set_list))) pss_nil)
      (pss_one (ps_ret (pe_tup (pa_cons (pv 4) (pa_cons (pe_lc (own := [("_law_k", 5)]) rfl scLhouse.nd (pi_range1 rfl T.nrange (pa_cons (pv 3) pa_nil)) (blkOk_by (own := [("_law_k", 5)]) (N := ["_law_s", "_law_jars", "_law_most", "_law_deeds", "_law_sizes", "_law_k"]) (sc := defScope sLhouse) (by decide +kernel)) (fun _ _ _ _ _ => (pg_name (i := 5) scLhouse.nd rfl (by first | exact Or.inl rfl | exact Or.inr rfl))) (fun _ _ _ _ _ => pts_nil) (fun _ _ _ _ _ => (pe_call (okLdeed T) (hr.mono (by decide)) rfl T.gLdeed T.fLdeed.kp T.bLdeed .nil pass0 (pa_cons (pv 0) (pa_cons (pv 4) pa_nil))))) pa_nil))))))), ?_⟩
    refine ⟨_, rfl, j, rfl, by omega, by omega, fun D1 hD1 => ?_⟩
    have Ds := hs.ne hD1
    refine lc_range (lo := 0) (n := j.toNat) (fun i H' => ∃ caps : List Int, H' D1 = some (.lst (vi caps)) ∧ MidN m caps ∧ caps.length = i ∧ StateAt H' s ∧ Fr s H H') ⟨[], upd_same, MidN.nil, rfl, hs.new hD1, Fr.of (same_new hD1)⟩ ?_ ?_
    · rintro i H' hi ⟨caps, k1, k2, k3, k4, k5⟩
      refine ⟨rfl, _, rfl, _, rfl, s, m, rfl, k4, by omega, by omega, fun H2 x lx s2 f2 => ⟨_, _, rfl, rfl, ?_⟩⟩
      refine ⟨_, f2 _ _ Ds k1, Nat.lt_of_lt_of_le (by rw [List.length_map]; omega : _ < 100) (by decide), caps ++ [1 + (x : Int)], ?_, k2.app (by omega) (by omega), by simp [k3], s2.mut Ds, fr_new (k5.trans f2) hD1⟩
      rw [upd_same]
      simp [vi]
    · rintro H1 ⟨caps, k1, k2, k3, s1, f1⟩
      have l1 : 1 ≤ caps.length := by omega
      have l5 : caps.length ≤ 6 := by omega
      refine ⟨fun σ' H' => ∃ (v5 : Option V) (caps' : List Int), σ' = [some (.ref s), some (.int j), some (.int m), some (.int n), some (.ref D1), v5] ∧ H' D1 = some (.lst (vi caps')) ∧ Caps caps' ∧ MidN m caps' ∧ caps'.length = caps.length ∧ StateAt H' s ∧ Fr s H H', ?_, ?_⟩
      · refine ⟨_, rfl, s, 3, rfl, s1, by decide, by decide, fun H2 x lx s2 f2 => ⟨rfl, _, rfl, ?_⟩⟩
        have g2 := f2 _ _ Ds k1
        refine ifD (fun _ => ?_) fun _ => ⟨_, caps, rfl, g2, k2.caps m2 l1 (by omega), k2, rfl, s2, f1.trans f2⟩
        refine ⟨_, rfl, D1, _, _, _, rfl, rfl, SqL.of g2, vi_at (by omega : 0 < caps.length), _, rfl, _, rfl, D1, _, _, caps.length - 1, rfl, rfl, g2, ?_, ?_⟩
        · rw [List.length_map]
          have e : caps.length = (caps.length - 1) + 1 := by omega
          rw [e]
          exact ixN_lastT
        · refine ⟨_, caps.set (caps.length - 1) (at0 caps 0), rfl, ?_, (k2.set (by omega)).caps m2 (by simp; omega) (by simp; omega), k2.set (by omega), by simp, s2.mut Ds, fr_new (f1.trans f2) hD1⟩
          rw [upd_same, vi_setT]
          rfl
      · rintro σ' H2 ⟨v5, caps', rfl, g2, hC, hM, el, s2, f2⟩
        refine ⟨_, rfl, _, rfl, n, rfl, by omega, by omega, fun D2 hD2 => ?_⟩
        have D2s := s2.ne hD2
        have D12 : D1 ≠ D2 := ne_of_none g2 hD2
        refine lc_range (lo := 0) (n := (n : Int).toNat) (fun i H' => ∃ (ts : List V) (ds : List D), H' D2 = some (.lst ts) ∧ A2 (FactAt H') ts ds ∧ (∀ d ∈ ds, d.ok1 caps') ∧ ds.length = i ∧ StateAt H' s ∧ Fr s H2 H') ⟨[], [], upd_same, trivial, (fun d h => by cases h), rfl, s2.new hD2, Fr.of (same_new hD2)⟩ ?_ ?_
        · rintro i H' hi ⟨ts, ds, q1, q2, q3, q4, q5, q6⟩
          refine ⟨rfl, _, rfl, _, rfl, s, D1, caps', rfl, q5, q6 _ _ Ds g2, Ds, hC, fun H3 p d p0 hF hd s3 f3 => ?_⟩
          have gD := f3 _ _ D2s q1
          obtain ⟨o, ho, hb⟩ := q5.ex
          have bl : Fr D2 H3 (upd H3 D2 (.lst (ts ++ [V.ref p]))) := fr_mut (Fr.refl _ _)
          have tl := q2.len
          refine ⟨_, gD, Nat.lt_of_lt_of_le (by omega : ts.length < 100) (by decide), ts ++ [V.ref p], ds ++ [d], upd_same, A2.app (A2.mono (fun _ _ k => FactAt.fr bl gD bl_l (k.fr f3 ho hb)) q2) ⟨FactAt.fr bl gD bl_l hF, trivial⟩, ?_, by simp [q4], s3.mut D2s, fr_new (q6.trans f3) hD2⟩
          intro c hc
          rcases List.mem_append.mp hc with h | h
          · exact q3 c h
          · obtain rfl : c = d := by simpa using h
            exact hd
        · rintro H3 ⟨ts, ds, q1, q2, q3, q4, s3, f3⟩
          rw [Int.toNat_natCast] at q4
          refine ⟨(by show 2 ≤ sizeLine; decide), fun p hp => ?_⟩
          have sp := same_new (o := HO.tup [V.ref D1, V.ref D2]) hp
          have fA := f2.trans f3
          exact hq _ p D1 D2 caps' ts ds (fr_free fA (s3.ne hp) hp) upd_same hD1 (sp _ _ (f3 _ _ Ds g2)) hC hM (by omega) (fr_free f2 D2s hD2) (sp _ _ q1) (A2.mono (fun _ _ k => FactAt.same sp k) q2) q4 q3 (s3.new hp) (fA.trans (Fr.of sp))
end
end Kp
namespace Kp
open PySem PySem.Spec PyProof.Rows L2 KpR
section
variable {K : PySem.W.Frag} {mg : Str → Option Value}
def spLrow (T : Tx K mg) : Sp := fun vs H Q _ => ∃ (c f : Addr) (caps : List Int) (ts : List V) (ds : List D), vs = [.ref c, .ref f] ∧ H c = some (.lst (vi caps)) ∧ Caps caps ∧ H f = some (.lst ts) ∧ A2 (FactAt H) ts ds ∧ ds.length ≤ 20 ∧ (∀ d ∈ ds, d.ok caps) ∧
  ∀ (H' : Hp) (r : Addr), H r = none → RowAt T H' r caps ds → Same H H' → Q (.ref r) H'
theorem at_set {xs : List V} {b : Nat} {v : V} (h : b < xs.length) : atI (xs.set b v) (b : Int) = some v := atI_nat (by simp [h])
end
section
variable {P : Program} {w : World} {K : PySem.W.Frag} {mg : Str → Option Value} {base : Heap}
theorem okLrow (T : Tx K mg) : FnOk P w K mg base CX0 5 T.aLrow T.dLrow ["_law_sizes", "_law_deeds"] (spLrow T) := by
  refine T.fLrow.ok scLrow (fun vs H Q E h => ?_) (fun cdv A outer s H vs Q E hr h => ?_)
  · obtain ⟨c, f, caps, ts, ds, rfl, _⟩ := h
    rfl
  · obtain ⟨c, f, caps, ts, ds, rfl, hc, hC, hf, hA, l20, ok, hq⟩ := h
    refine ⟨_, (pss_cons (ps_set (i := 2) scLrow.nd rfl (by first | exact Or.inl rfl | exact Or.inr rfl) (pe_lst pa_nil))
      (pss_cons (ps_for PassesOwn.never rfl (pi_list (pv 1)) (pg_tup rfl (pgs_cons (pg_name (i := 3) scLrow.nd rfl (by first | exact Or.inl rfl | exact Or.inr rfl)) (pgs_cons (pg_name (i := 4) scLrow.nd rfl (by first | exact Or.inl rfl | exact Or.inr rfl)) (pgs_cons (pg_name (i := 5) scLrow.nd rfl (by first | exact Or.inl rfl | exact Or.inr rfl)) pgs_nil)))) (pss_one (ps_if (pt_cmpR op_eq (pv 3) pe_str (nomark _)) (pss_one (ps_expr (pe_bm PySem.F.plainAttrs_list PySem.F.slot_list_append PySem.F.type_list_append mt_append (pv 2) (pa_cons (pe_make T.kPour (okPourInit T) (hr.mono (by decide)) rfl T.mPour T.bPourInit .nil pass0 (pa_cons (pv 4) (pa_cons (pv 5) pa_nil))) pa_nil)))) (pss_one (ps_if (pt_cmpR op_eq (pv 3) pe_str (nomark _)) (pss_one (ps_expr (pe_bm PySem.F.plainAttrs_list PySem.F.slot_list_append PySem.F.type_list_append mt_append (pv 2) (pa_cons (pe_make T.kChange (okChangeInit T) (hr.mono (by decide)) rfl T.mChange T.bChangeInit .nil pass0 (pa_cons (pv 4) (pa_cons (pv 5) pa_nil))) pa_nil)))) (pss_one (ps_if (pt_cmpR op_eq (pv 3) pe_str (nomark _)) (pss_one (ps_expr (pe_bm PySem.F.plainAttrs_list PySem.F.slot_list_append PySem.F.type_list_append mt_append (pv 2) (pa_cons (pe_make T.kPut (okPutInit T) (hr.mono (by decide)) rfl T.mPut T.bPutInit .nil pass0 (pa_cons (pv 4) (pa_cons (pv 5) pa_nil))) pa_nil)))) (pss_one (ps_expr (pe_bm PySem.F.plainAttrs_list PySem.F.slot_list_append PySem.F.type_list_append mt_append (pv 2) (pa_cons (pe_make T.kDraw (okDrawInit T) (hr.mono (by decide)) rfl T.mDraw T.bDrawInit .nil pass0 (pa_cons (pv 4) (pa_cons (pv 5) pa_nil))) pa_nil)))))))))))
      (pss_one (ps_ret (pe_make T.kRow (okRowInit T) (hr.mono (by decide)) rfl T.mRow T.bRowInit .nil pass0 (pa_cons (pe_make T.kJars (okJarsInit T) (hr.mono (by decide)) rfl T.mJars T.bJarsInit .nil pass0 (pa_cons (pv 0) pa_nil)) (pa_cons (pv 2) pa_nil))))))), ?_⟩
    refine ⟨(by show 0 ≤ sizeLine; decide), fun g hg => ?_⟩
    have fg : f ≠ g := ne_of_none hf hg
    have cg : c ≠ g := ne_of_none hc hg
    refine ⟨_, rfl, f, rfl, ⟨_, (same_new hg).seq (SqL.of hf)⟩, ?_⟩
    refine for_list (K := K) (a := f) (xs := ts) (fun i σ H' => ∃ (v3 v4 v5 : Option V) (us : List V), σ = [some (.ref c), some (.ref f), some (.ref g), v3, v4, v5] ∧ H' g = some (.lst us) ∧ A2 (DeedAt T H') us (ds.take i) ∧ Same H H')
      ⟨none, none, none, [], rfl, upd_same, by simp [A2], same_new hg⟩ (fun i σ H' _ ⟨_, _, _, _, _, _, _, e⟩ => e.seq (SqL.of hf)) ?_ ?_
    · rintro i y σ H' hi ⟨v3, v4, v5, us, rfl, k1, k2, sm⟩
      obtain ⟨d, hd, hy⟩ := hA.get hi
      obtain ⟨t, rfl, ht⟩ := hy.same sm
      have ul := k2.len
      have ub : (ds.take i).length ≤ 20 := by rw [List.length_take]; omega
      have fin : ∀ (H2 : Hp) (x : Addr), Same H' H2 → DeedAt T H2 (.ref x) d → A2 (DeedAt T (upd H2 g (.lst (us ++ [V.ref x])))) (us ++ [V.ref x]) (ds.take (i + 1)) ∧ Same H (upd H2 g (.lst (us ++ [V.ref x]))) := fun H2 x s2 hx => by
        have bl : Fr g H2 (upd H2 g (.lst (us ++ [V.ref x]))) := fr_mut (Fr.refl _ _)
        have gD := s2 _ _ k1
        refine ⟨?_, same_mut (sm.trans s2) hg⟩
        rw [List.take_add_one, hd]
        exact A2.app (A2.mono (fun _ _ k => DeedAt.fr bl gD bl_l (k.same s2)) k2) ⟨DeedAt.fr bl gD bl_l hx, trivial⟩
      have sz : us.length < sizeLine := Nat.lt_of_lt_of_le (by omega : us.length < 100) (by decide)
      refine ⟨t, _, rfl, SqT.of ht, rfl, _, _, rfl, _, _, rfl, _, _, rfl, rfl, _, rfl, rfl, _, rfl, ?_⟩
      cases d with
      | pour a b =>
        refine ifT (show decide (V.str "pour" = V.str "pour") = true by decide +kernel) ⟨_, rfl, .inl ⟨rfl, _, SqL.of k1⟩, _, rfl, _, rfl, fun x dx hx hdx ne => ⟨x, dx, _, _, rfl, upd_same, fun H2 h2 fr => ⟨rfl, ?_⟩⟩⟩
        have s2 := made_same hx hdx fr
        have z := fin H2 x s2 ⟨x, dx, rfl, h2⟩
        exact ⟨g, _, _, rfl, rfl, s2 _ _ k1, sz, _, _, _, _, rfl, upd_same, z.1, z.2⟩
      | put a k =>
        refine ifF (show decide (V.str "put" = V.str "pour") = false by decide +kernel) ⟨_, rfl, rfl, _, rfl, ifF (show decide (V.str "put" = V.str "change") = false by decide +kernel) ⟨_, rfl, rfl, _, rfl, ifT (show decide (V.str "put" = V.str "put") = true by decide +kernel) ⟨_, rfl, .inl ⟨rfl, _, SqL.of k1⟩, _, rfl, _, rfl, fun x dx hx hdx ne => ⟨x, dx, _, _, rfl, upd_same, fun H2 h2 fr => ⟨rfl, ?_⟩⟩⟩⟩⟩
        have s2 := made_same hx hdx fr
        have z := fin H2 x s2 ⟨x, dx, rfl, h2⟩
        exact ⟨g, _, _, rfl, rfl, s2 _ _ k1, sz, _, _, _, _, rfl, upd_same, z.1, z.2⟩
      | draw a k =>
        refine ifF (show decide (V.str "draw" = V.str "pour") = false by decide +kernel) ⟨_, rfl, rfl, _, rfl, ifF (show decide (V.str "draw" = V.str "change") = false by decide +kernel) ⟨_, rfl, rfl, _, rfl, ifF (show decide (V.str "draw" = V.str "put") = false by decide +kernel) ⟨_, rfl, .inl ⟨rfl, _, SqL.of k1⟩, _, rfl, _, rfl, fun x dx hx hdx ne => ⟨x, dx, _, _, rfl, upd_same, fun H2 h2 fr => ⟨rfl, ?_⟩⟩⟩⟩⟩
        have s2 := made_same hx hdx fr
        have z := fin H2 x s2 ⟨x, dx, rfl, h2⟩
        exact ⟨g, _, _, rfl, rfl, s2 _ _ k1, sz, _, _, _, _, rfl, upd_same, z.1, z.2⟩
      | change a b =>
        refine ifF (show decide (V.str "change" = V.str "pour") = false by decide +kernel) ⟨_, rfl, rfl, _, rfl, ifT (show decide (V.str "change" = V.str "change") = true by decide +kernel) ⟨_, rfl, .inl ⟨rfl, _, SqL.of k1⟩, _, rfl, _, rfl, fun x dx hx hdx ne => ⟨x, dx, _, _, rfl, upd_same, fun H2 h2 fr => ⟨rfl, ?_⟩⟩⟩⟩
        have s2 := made_same hx hdx fr
        have z := fin H2 x s2 ⟨x, dx, rfl, h2⟩
        exact ⟨g, _, _, rfl, rfl, s2 _ _ k1, sz, _, _, _, _, rfl, upd_same, z.1, z.2⟩
    · rintro σ H' ⟨v3, v4, v5, us, rfl, k1, k2, sm⟩
      rw [hA.len, List.take_length] at k2
      refine ⟨_, rfl, fun x dx hx hdx ne => ?_⟩
      have s1 : Same H' (upd (upd H' dx (.own x)) x (.ins T.cJars dx [])) := (same_new hdx).trans (same_new (by rw [upd_ne ne.symm]; exact hx))
      refine ⟨x, dx, c, caps, rfl, upd_same, s1.seq (SqL.of (sm _ _ hc)), hC, fun H1 hJ fr => ⟨rfl, ?_⟩⟩
      have s2 := made_same hx hdx fr
      refine ⟨_, rfl, fun x2 dx2 hx2 hdx2 ne2 => ?_⟩
      have s3 : Same H1 (upd (upd H1 dx2 (.own x2)) x2 (.ins T.cRow dx2 [])) := (same_new hdx2).trans (same_new (by rw [upd_ne ne2.symm]; exact hx2))
      refine ⟨x2, dx2, x, g, caps, us, ds, rfl, upd_same, hJ.same s3, s3 _ _ (s2 _ _ k1), A2.mono (fun _ _ k => k.same (s2.trans s3)) k2, l20, ok, fun H5 hR fr5 => ⟨rfl, ?_⟩⟩
      exact hq H5 x2 ((sm.trans s2).free hx2) hR ((sm.trans s2).trans (made_same hx2 hdx2 fr5))
end
end Kp

namespace Kp
open PySem PySem.Spec PyProof.Rows L2 KpR
theorem vi_injT {l m : List Int} (h : vi l = vi m) : l = m := by
  have := congrArg (List.map fun v => match v with | V.int i => i | _ => 0) h
  simpa [vi, Function.comp_def] using this
section
variable {K : PySem.W.Frag} {mg : Str → Option Value}
/-- own ==, either answer -/
def RSum (T : Tx K mg) (a : Addr) (y : V) (b : Bool) (H : Hp) : Prop := ∃ q r, SumAt T H (.ref a) q ∧ SumAt T H y r ∧ b = decide (q = r)
def RLeaf (T : Tx K mg) (a : Addr) (y : V) (b : Bool) (H : Hp) : Prop := ∃ ss u, TrAt T H (.ref a) (.leaf ss) ∧ TrAt T H y u ∧ b = decide (Tr.leaf ss = u)
def RTest (T : Tx K mg) (m : Nat) (a : Addr) (y : V) (b : Bool) (H : Hp) : Prop := ∃ d g l t1 t2 u, TrAt T H (.ref a) (.test d g l t1 t2) ∧ TrAt T H y u ∧ depthT (.test d g l t1 t2) ≤ m ∧ b = decide (Tr.test d g l t1 t2 = u)
def spSumEq (T : Tx K mg) : Sp := spEqB (RSum T)
def spLeafEq (T : Tx K mg) : Sp := spEqB (RLeaf T)
def spTestE (T : Tx K mg) (m : Nat) : Sp := spEqB (RTest T m)
theorem TrAt.tyX {T : Tx K mg} {H : Hp} {v : V} : ∀ {t : Tr}, TrAt T H v t → ∃ p C dx fs, v = .ref p ∧ H p = some (.ins C dx fs) ∧ TyX K H v (.ref C) ∧ (match t with | .leaf _ => C = T.cLeaf | _ => C = T.cTest)
  | .leaf ss, h => by
    obtain ⟨p, dx, t, us, rfl, h1, h2, h3⟩ := h
    exact ⟨p, _, _, _, rfl, h1, .base (.ins h1 T.lLeaf T.yLeaf.ha T.yLeaf.hn T.yLeaf.ht T.yLeaf.hm), rfl⟩
  | .test d g l a b, h => by
    obtain ⟨p, dx, t, x, y, rfl, h1, h2, h3, h4⟩ := h
    exact ⟨p, _, _, _, rfl, h1, .base (.ins h1 T.lTest T.yTest.ha T.yTest.hn T.yTest.ht T.yTest.hm), rfl⟩
end
section
variable {P : Program} {w : World} {K : PySem.W.Frag} {mg : Str → Option Value} {base : Heap}
theorem okSumEq (T : Tx K mg) : FnOk P w K mg base CX0 1 T.aSumEq T.dSumEq ["self", "other"] (spSumEq T) := by
  refine T.fSumEq.ok scSumEq (fun vs H Q E h => ?_) (fun cdv A outer s H vs Q E hr h => ?_)
  · obtain ⟨a, y, b, rfl, _⟩ := h
    rfl
  · obtain ⟨a, y, b, rfl, ⟨⟨g, n⟩, ⟨g', n'⟩, h1, h2, rfl⟩, hq⟩ := h
    refine ⟨_, (pss_one (ps_ret (pe_and (pe_callB call_isi rfl T.nisinstance (by decide +kernel) (pa_cons (pv 1) (pa_cons (pe_glob (v := .ref T.cSum) rfl T.mSum rfl) pa_nil))) (pe_and (pe_cmpR (op_eqD hr.units) (pe_fld (pv 0) rfl) (pe_fld (pv 1) rfl) (nomark _)) (pe_one (pe_cmpR op_eq (pe_fld (pv 0) rfl) (pe_fld (pv 1) rfl) (nomark _))))))), ?_⟩
    obtain ⟨p, dx, t, e1, h1, ht⟩ := h1
    cases e1
    obtain ⟨q, dy, t2, rfl, g1, gt⟩ := h2
    refine ⟨_, rfl, .ref q, .ref T.cSum, _, _, true, rfl, .own _, .base (.ins g1 T.lSum T.ySum.ha T.ySum.hn T.ySum.ht T.ySum.hm), T.iSum_Sum, _, rfl, ifT rfl ?_⟩
    refine ⟨_, rfl, a, _, dx, _, _, rfl, h1, T.lSum, T.nSum_group, lk1, _, rfl, q, _, dy, _, _, rfl, g1, T.lSum, T.nSum_group, lk1, ?_⟩
    refine eqTI (SqT.of ht) (SqT.of gt) ⟨_, rfl, ?_⟩
    have fin := hq H Ext.rfl'
    refine ifD (fun e => ?_) (fun e => ?_)
    · refine ⟨_, rfl, a, _, dx, _, _, rfl, h1, T.lSum, T.nSum_more, lk2 (by decide +kernel), _, rfl, q, _, dy, _, _, rfl, g1, T.lSum, T.nSum_more, lk2 (by decide +kernel), rfl, ?_⟩
      have e : g = g' := e
      subst e
      have eb : decide (((g, n) : List Int × Int) = (g, n')) = decide (V.int n = V.int n') := by simp
      rw [eb] at fin
      exact fin
    · have e : ¬ g = g' := e
      have eb : decide (((g, n) : List Int × Int) = (g', n')) = false := by simp [e]
      rw [eb] at fin
      exact fin
end
section
variable {X : Cx} {K : PySem.W.Frag} {mg : Str → Option Value}
def QSum (T : Tx K mg) : EqvB := DInsB K T.cSum (RSum T)
theorem nfSelf {K : PySem.W.Frag} {C : Addr} : PySem.W.notFirst K C (.ref C) = true := by simp [PySem.W.notFirst]
theorem SumAt.one {T : Tx K mg} {H : Hp} {v : V} {q r : List Int × Int} (h1 : SumAt T H v q) (h2 : SumAt T H v r) : q = r := by
  obtain ⟨p, dx, t, rfl, a1, a2⟩ := h1
  obtain ⟨p', dx', t', e, b1, b2⟩ := h2
  cases e
  have z := Option.some.inj (a1.symm.trans b1)
  simp only [f2s] at z
  injection z with z1 z2 z3
  simp only [List.cons.injEq, Prod.mk.injEq, V.ref.injEq, V.int.injEq, and_true, true_and] at z3
  obtain ⟨rfl, e2⟩ := z3
  have z4 := Option.some.inj (a2.symm.trans b2)
  injection z4 with z4
  have e1 := vi_injT z4
  cases q; cases r
  simp only at e1 e2
  rw [e1, e2]
theorem eqSum (T : Tx K mg) (hK : X.K = K := by rfl) (hm : X.mg = mg := by rfl) : EqB X 1 (QSum T) := by
  subst hK
  subst hm
  refine RcB.eqB (rcB_ins (E := E0) ⟨T.eSumEq, T.eiSumEq⟩ (okSumEq T) T.bSumEq pass0) fun x y b H h => .inl ?_
  obtain ⟨a, c, C', dx, dy, fs, gs, rfl, rfl, _, _, _, q, r, h1, h2, e⟩ := h
  refine ⟨a, rfl, c, rfl, fun z => ?_⟩
  subst z
  rw [e, decide_eq_true (h1.one h2)]
theorem opEqSums (T : Tx K mg) (hr : Room 2 X.A) (hK : X.K = K := by rfl) (hm : X.mg = mg := by rfl) : OpR X (compareOp .Eq) (rEqB (DTupB K (QSum T))) := by
  subst hK
  subst hm
  exact op_eqB (rcB_tup (eqSum T)) hr
theorem eqSums {T : Tx K mg} {H : Hp} {a c : Addr} {us ws : List V} {ss tt : List (List Int × Int)} (ha : H a = some (.tup us)) (hc : H c = some (.tup ws)) (hA : A2 (SumAt T H) us ss) (hB : A2 (SumAt T H) ws tt) : DTupB K (QSum T) (.ref a) (.ref c) (decide (ss = tt)) H := by
  refine ⟨a, c, us, ws, fun i => decide (ss[i]? = tt[i]?), rfl, rfl, SqT.of ha, SqT.of hc, fun i u v hu hv H' e => ?_, ?_⟩
  · obtain ⟨q, hq, h1⟩ := hA.get hu
    obtain ⟨r, hr, h2⟩ := hB.get hv
    have s : Same H H' := fun b o z => e b o z
    have h1 := h1.same s
    have h2 := h2.same s
    obtain ⟨p, dx, t, rfl, k1, k2⟩ := id h1
    obtain ⟨p', dx', t', rfl, l1, l2⟩ := id h2
    refine ⟨p, p', _, dx, dx', _, _, rfl, rfl, k1, l1, nfSelf, q, r, h1, h2, ?_⟩
    show decide (ss[i]? = tt[i]?) = decide (q = r)
    rw [hq, hr]
    simp
  · rw [decide_eq_true_iff, hA.len, hB.len]
    constructor
    · rintro rfl
      exact ⟨rfl, fun i _ => by simp⟩
    · rintro ⟨e, h⟩
      apply List.ext_getElem?
      intro i
      by_cases hi : i < ss.length
      · exact of_decide_eq_true (h i hi)
      · rw [List.getElem?_eq_none (by omega), List.getElem?_eq_none (by omega)]
end
section
variable {P : Program} {w : World} {K : PySem.W.Frag} {mg : Str → Option Value} {base : Heap}
theorem okLeafEq (T : Tx K mg) : FnOk P w K mg base CX0 3 T.aLeafEq T.dLeafEq ["self", "other"] (spLeafEq T) := by
  refine T.fLeafEq.ok scLeafEq (fun vs H Q E h => ?_) (fun cdv A outer s H vs Q E hr h => ?_)
  · obtain ⟨a, y, b, rfl, _⟩ := h
    rfl
  · obtain ⟨a, y, b, rfl, ⟨ss, u, h1, h2, rfl⟩, hq⟩ := h
    refine ⟨_, (pss_one (ps_ret (pe_and (pe_callB call_isi rfl T.nisinstance (by decide +kernel) (pa_cons (pv 1) (pa_cons (pe_glob (v := .ref T.cLeaf) rfl T.mLeaf rfl) pa_nil))) (pe_one (pe_cmpR (opEqSums T (hr.mono (by decide))) (pe_fld (pv 0) rfl) (pe_fld (pv 1) rfl) (nomark _)))))), ?_⟩
    obtain ⟨p, dx, t, us, e1, h1, ht, hA⟩ := h1
    cases e1
    cases u with
    | test d g l t1 t2 =>
      obtain ⟨q, C, dy, fs, rfl, g1, ty, rfl⟩ := h2.tyX
      refine ⟨_, rfl, .ref q, .ref T.cLeaf, _, _, false, rfl, .own _, ty, T.iTest_Leaf, _, rfl, ifF rfl ?_⟩
      exact hq H Ext.rfl'
    | leaf tt =>
      obtain ⟨q, dy, t', ws, rfl, g1, gt, gA⟩ := h2
      refine ⟨_, rfl, .ref q, .ref T.cLeaf, _, _, true, rfl, .own _, .base (.ins g1 T.lLeaf T.yLeaf.ha T.yLeaf.hn T.yLeaf.ht T.yLeaf.hm), T.iLeaf_Leaf, _, rfl, ifT rfl ?_⟩
      refine ⟨_, rfl, a, _, dx, _, _, rfl, h1, T.lLeaf, T.nLeaf_sums, lk1, _, rfl, q, _, dy, _, _, rfl, g1, T.lLeaf, T.nLeaf_sums, lk1, ?_⟩
      refine ⟨decide (ss = tt), eqSums ht gt hA gA, fun H' e => ?_⟩
      have eb : decide (Tr.leaf ss = Tr.leaf tt) = decide (ss = tt) := by simp
      rw [← eb]
      exact hq H' e
abbrev TeOk (P : Program) (w : World) (K : PySem.W.Frag) (mg : Str → Option Value) (base : Heap) (T : Tx K mg) (m : Nat) : Prop := FnOk P w K mg base CX0 (m + 3) T.aTestEq T.dTestEq ["self", "other"] (spTestE T m)
end
section
variable {X : Cx} {K : PySem.W.Frag} {mg : Str → Option Value}
def QTr (T : Tx K mg) (m : Nat) : EqvB := fun x y b H => ∃ t u, TrAt T H x t ∧ TrAt T H y u ∧ depthT t ≤ m ∧ b = decide (t = u)
theorem rcTr {P : Program} {w : World} {base : Heap} {m : Nat} (T : Tx K mg) (hT : TeOk P w K mg base T m) (e1 : X.prog = P := by rfl) (e2 : X.w = w := by rfl) (e3 : X.K = K := by rfl) (e4 : X.mg = mg := by rfl) (e5 : X.base = base := by rfl) : RcB X (m + 3) (QTr T m) := by
  subst e1 e2 e3 e4 e5
  have r1 := (rcB_ins (X := X) (E := E0) ⟨T.eLeafEq, T.eiLeafEq⟩ (okLeafEq T) T.bLeafEq pass0).mono (show 3 ≤ m + 3 by omega)
  have r2 := rcB_ins (X := X) (E := E0) ⟨T.eTestEq, T.eiTestEq⟩ hT T.bTestEq pass0
  refine fun B pins s σ H x y b u v sb I rx ry d => (RcB.or r1 r2) B pins s σ H x y b u v sb I rx ry ?_
  obtain ⟨t, r, h1, h2, hd, rfl⟩ := d
  obtain ⟨q, C, dy, gs, rfl, g1, _, e⟩ := h2.tyX
  cases t with
  | leaf ss =>
    obtain ⟨p, dx, tp, us, rfl, k1, k2, k3⟩ := id h1
    refine .inl ⟨p, q, C, dx, dy, _, gs, rfl, rfl, k1, g1, ?_, ss, r, h1, h2, rfl⟩
    cases r with
    | leaf _ => cases e; exact nfSelf
    | test _ _ _ _ _ => cases e; exact T.nfLeaf_Test
  | test d g l t1 t2 =>
    obtain ⟨p, dx, tp, x1, x2, rfl, k1, k2, k3, k4⟩ := id h1
    refine .inr ⟨p, q, C, dx, dy, _, gs, rfl, rfl, k1, g1, ?_, d, g, l, t1, t2, r, h1, h2, hd, rfl⟩
    cases r with
    | leaf _ => cases e; exact T.nfTest_Leaf
    | test _ _ _ _ _ => cases e; exact nfSelf
end
section
variable {P : Program} {w : World} {K : PySem.W.Frag} {mg : Str → Option Value} {base : Heap}
theorem okTe (T : Tx K mg) {m : Nat} (hTe : TeOk P w K mg base T m) : TeOk P w K mg base T (m + 1) := by
  refine T.fTestEq.ok scTestEq (fun vs H Q E h => ?_) (fun cdv A outer s H vs Q E hr0 h => ?_)
  · obtain ⟨a, y, b, rfl, _⟩ := h
    rfl
  · have hrT : Room (m + 3) _ := hr0
    have hr : Room 3 _ := hr0.mono (by omega)
    obtain ⟨a, y, b, rfl, ⟨d, g, l, t1, t2, u, h1, h2, hd, rfl⟩, hq⟩ := h
    refine ⟨_, (pss_cons (ps_if (pt_not (pt_val (pe_callB call_isi rfl T.nisinstance (by decide +kernel) (pa_cons (pv 1) (pa_cons (pe_glob (v := .ref T.cTest) rfl T.mTest rfl) pa_nil))))) (pss_one (ps_ret pe_bl)) pss_nil)
      (pss_cons (ps_if (PW.pt (pw_or (pt_cmpR op_ne (pe_fld (pv 0) rfl) (pe_fld (pv 1) rfl) (nomark _)) (pw_or (pt_cmpR (op_neD hr.units) (pe_fld (pv 0) rfl) (pe_fld (pv 1) rfl) (nomark _)) (pw_or1 (pt_cmpR op_ne (pe_fld (pv 0) rfl) (pe_fld (pv 1) rfl) (nomark _)))))) (pss_one (ps_ret pe_bl)) pss_nil)
      (pss_one (ps_ret (pe_and (pe_cmpR (op_eqB (rcTr T hTe) hrT) (pe_fld (pv 0) rfl) (pe_fld (pv 1) rfl) (nomark _)) (pe_one (pe_cmpR (op_eqB (rcTr T hTe) hrT) (pe_fld (pv 0) rfl) (pe_fld (pv 1) rfl) (nomark _)))))))), ?_⟩
    have hd : max (depthT t1) (depthT t2) + 1 ≤ m + 1 := hd
    obtain ⟨p, dx, t, x1, x2, e1, h1, ht, hx1, hx2⟩ := h1
    cases e1
    cases u with
    | leaf tt =>
      obtain ⟨q, C, dy, fs, rfl, g1, ty, rfl⟩ := h2.tyX
      refine ⟨_, rfl, .ref q, .ref T.cTest, _, _, false, rfl, .own _, ty, T.iLeaf_Test, _, rfl, ifT rfl ?_⟩
      exact hq H Ext.rfl'
    | test d' g' l' u1 u2 =>
      obtain ⟨q, dy, t', y1, y2, rfl, g1, gt, gy1, gy2⟩ := h2
      refine ⟨_, rfl, .ref q, .ref T.cTest, _, _, true, rfl, .own _, .base (.ins g1 T.lTest T.yTest.ha T.yTest.hn T.yTest.ht T.yTest.hm), T.iTest_Test, _, rfl, ifF rfl ?_⟩
      have no : ¬ (d = d' ∧ g = g' ∧ l = l' ∧ t1 = u1 ∧ t2 = u2) → Q (.bl false) H := fun z => by
        have := hq H Ext.rfl'
        rw [decide_eq_false (by simpa using z)] at this
        exact this
      refine ⟨_, rfl, a, _, dx, _, _, rfl, h1, T.lTest, T.nTest_deed, lk1, _, rfl, q, _, dy, _, _, rfl, g1, T.lTest, T.nTest_deed, lk1, rfl, _, rfl, ?_⟩
      by_cases c1 : d = d'
      · refine ifF (by rw [c1]; simp) ?_
        refine ⟨_, rfl, a, _, dx, _, _, rfl, h1, T.lTest, T.nTest_group, lk2 (by decide +kernel), _, rfl, q, _, dy, _, _, rfl, g1, T.lTest, T.nTest_group, lk2 (by decide +kernel), ?_⟩
        refine neTI (SqT.of ht) (SqT.of gt) ⟨_, rfl, ?_⟩
        by_cases c2 : g = g'
        · refine ifF (by rw [c2]; simp) ?_
          refine ⟨_, rfl, a, _, dx, _, _, rfl, h1, T.lTest, T.nTest_limit, lk3 (by decide +kernel) (by decide +kernel), _, rfl, q, _, dy, _, _, rfl, g1, T.lTest, T.nTest_limit, lk3 (by decide +kernel) (by decide +kernel), rfl, _, rfl, ?_⟩
          by_cases c3 : l = l'
          · refine ifF (by rw [c3]; simp) ?_
            refine ⟨_, rfl, a, _, dx, _, _, rfl, h1, T.lTest, T.nTest_first, lk4 (by decide +kernel) (by decide +kernel) (by decide +kernel), _, rfl, q, _, dy, _, _, rfl, g1, T.lTest, T.nTest_first, lk4 (by decide +kernel) (by decide +kernel) (by decide +kernel), decide (t1 = u1), ⟨t1, u1, hx1, gy1, by omega, rfl⟩, fun H1 s1 => ⟨_, rfl, ?_⟩⟩
            have sm : Same H H1 := fun b o z => s1 b o z
            refine ifD (fun c4 => ?_) (fun c4 => ?_)
            · refine ⟨_, rfl, a, _, dx, _, _, rfl, sm _ _ h1, T.lTest, T.nTest_second, lk5 (by decide +kernel) (by decide +kernel) (by decide +kernel) (by decide +kernel), _, rfl, q, _, dy, _, _, rfl, sm _ _ g1, T.lTest, T.nTest_second, lk5 (by decide +kernel) (by decide +kernel) (by decide +kernel) (by decide +kernel), decide (t2 = u2), ⟨t2, u2, hx2.same sm, gy2.same sm, by omega, rfl⟩, fun H2 s2 => ?_⟩
              have := hq H2 (s1.trans s2)
              have eb : decide (Tr.test d g l t1 t2 = Tr.test d' g' l' u1 u2) = decide (t2 = u2) := by simp [c1, c2, c3, c4]
              rw [eb] at this
              exact this
            · have := hq H1 s1
              rw [decide_eq_false (by simp [c4])] at this
              exact this
          · refine ifT (by simp [c3]) (no fun z => c3 z.2.2.1)
        · refine ifT (by simp [c2]) (no fun z => c2 z.2.1)
      · refine ifT (by simp; omega) (no fun z => c1 z.1)
theorem noTe (T : Tx K mg) : TeOk P w K mg base T 0 := by
  refine T.fTestEq.ok scTestEq (fun vs H Q E h => ?_) (fun cdv A outer s H vs Q E hr0 h => ?_)
  · obtain ⟨a, y, b, rfl, _⟩ := h
    rfl
  · obtain ⟨a, y, b, rfl, ⟨d, g, l, t1, t2, u, h1, h2, hd, rfl⟩, hq⟩ := h
    have hd : max (depthT t1) (depthT t2) + 1 ≤ 0 := hd
    omega
theorem okTes (T : Tx K mg) : ∀ m : Nat, TeOk P w K mg base T m
  | 0 => noTe T
  | m + 1 => okTe T (okTes T m)
end
section
variable {X : Cx} {K : PySem.W.Frag} {mg : Str → Option Value}
def rNeTr (T : Tx K mg) : R2 := fun x y H Q => rNeK T.cLeaf (RLeaf T) x y H Q ∨ rNeK T.cTest (RTest T 6) x y H Q
theorem opNeTree (T : Tx K mg) (hr : Room 10 X.A) (hK : X.K = K := by rfl) (hm : X.mg = mg := by rfl) : OpR X (compareOp .NotEq) (rNeTr T) := by
  subst hK
  subst hm
  intro pins s σ H x y v u Q I rx ry h
  exact h.elim (op_neK (E := E0) (okLeafEq T) T.neLeaf T.bLeafEq pass0 (hr.mono (by decide)) pins s σ H x y v u Q I rx ry) (op_neK (E := E0) (okTes T 6) T.neTest T.bTestEq pass0 (hr.mono (by decide)) pins s σ H x y v u Q I rx ry)
theorem opEqTree (T : Tx K mg) (hr : Room 9 X.A) (hK : X.K = K := by rfl) (hm : X.mg = mg := by rfl) : OpR X (compareOp .Eq) (rEqB (QTr T 6)) := by
  subst hK
  subst hm
  exact op_eqB (rcTr T (okTes T 6)) hr
theorem neTree {T : Tx K mg} {H : Hp} {x y : V} {t : Tr} {Q : VK} (h1 : TrAt T H x t) (h2 : TrAt T H y t) (hd : depthT t ≤ 6) (q : ∀ H', Ext H H' → Q (.bl false) H') : rNeTr T x y H Q := by
  cases t with
  | leaf ss =>
    obtain ⟨p, dx, tp, us, rfl, k1, k2, k3⟩ := id h1
    obtain ⟨p', dx', tp', us', rfl, l1, l2, l3⟩ := id h2
    exact .inl ⟨p, p', true, dx, dx', _, _, rfl, rfl, k1, l1, ⟨ss, _, h1, h2, (decide_eq_true rfl).symm⟩, q⟩
  | test d g l t1 t2 =>
    obtain ⟨p, dx, tp, x1, x2, rfl, k1, k2, k3, k4⟩ := id h1
    obtain ⟨p', dx', tp', x1', x2', rfl, l1, l2, l3, l4⟩ := id h2
    exact .inr ⟨p, p', true, dx, dx', _, _, rfl, rfl, k1, l1, ⟨d, g, l, t1, t2, _, h1, h2, hd, (decide_eq_true rfl).symm⟩, q⟩
end
end Kp

namespace Kp
open PySem PySem.Spec PyProof.Rows L2 KpR
theorem vi_snocT {l : List Int} {i : Nat} {z : Int} {F : Int → Int} (h : l[i]? = some z) : vi ((l.take i).map F) ++ [V.int (F z)] = vi ((l.take (i + 1)).map F) := by
  simp [vi, List.take_add_one, h]
theorem A2.set {α : Type} {R : V → α → Prop} {v : V} {x : α} (h : R v x) : ∀ {vs : List V} {ds : List α} {i : Nat}, A2 R vs ds → A2 R (vs.set i v) (ds.set i x)
  | [], [], _, _ => by simp [A2]
  | _ :: _, _ :: _, 0, k => ⟨h, k.2⟩
  | _ :: _, _ :: _, i + 1, k => ⟨k.1, A2.set h (i := i) k.2⟩
  | [], _ :: _, _, k => k.elim
  | _ :: _, [], _, k => k.elim
def TupJ (H : Hp) (v : V) (st : List Int) : Prop := ∃ t, v = .ref t ∧ H t = some (.tup (vi st))
theorem TupJ.same {H H' : Hp} {v : V} {st : List Int} (e : Same H H') (h : TupJ H v st) : TupJ H' v st := by
  obtain ⟨t, rfl, h⟩ := h
  exact ⟨t, rfl, e _ _ h⟩
theorem TupJ.fr {w : Addr} {H H' : Hp} {u : HO} {v : V} {st : List Int} (e : Fr w H H') (hw : H w = some u) (hb : Blank u) (h : TupJ H v st) : TupJ H' v st := by
  obtain ⟨t, rfl, h⟩ := h
  exact ⟨t, rfl, fr_no e hw hb h nbT⟩
/-- starts of the first jars -/
def Upto (caps : List Int) (p : Int) (i : Nat) (st : List Int) : Prop := st.length = i ∧ ∀ j, j < i → 0 ≤ at0 st j ∧ at0 st j ≤ at0 caps j * p
theorem at0_put {s : List Int} {m : Int} {i j : Nat} (h : s.length = i) : at0 (s ++ [m]) j = if j = i then m else at0 s j := by
  by_cases e : j = i
  · subst e
    rw [if_pos rfl]
    exact at0_of (by rw [List.getElem?_append_right (by omega), h]; simp)
  · rw [if_neg e]
    unfold at0
    rw [List.getD_eq_getElem?_getD, List.getD_eq_getElem?_getD]
    by_cases l : j < i
    · rw [List.getElem?_append_left (by omega)]
    · rw [List.getElem?_eq_none (by simp; omega), List.getElem?_eq_none (by omega)]
theorem upto_succ {caps : List Int} {p : Int} {i : Nat} {st : List Int} : Upto caps p (i + 1) st ↔ ∃ s0 : List Int, Upto caps p i s0 ∧ ∃ m : Nat, (m : Int) ≤ at0 caps i * p ∧ st = s0 ++ [(m : Int)] := by
  constructor
  · rintro ⟨l, h⟩
    have hi := h i (by omega)
    have e : st = st.take i ++ [at0 st i] := by
      have q := at0_get (show i < st.length by omega)
      conv => lhs; rw [← List.take_append_drop i st]
      congr 1
      rw [List.drop_eq_getElem_cons (show i < st.length by omega), List.drop_of_length_le (by omega)]
      congr 1
      rw [List.getElem?_eq_getElem (show i < st.length by omega)] at q
      exact Option.some.inj q
    refine ⟨st.take i, ⟨by simp; omega, fun j hj => ?_⟩, (at0 st i).toNat, by omega, by rw [Int.toNat_of_nonneg hi.1]; exact e⟩
    have := h j (by omega)
    have ej : at0 (st.take i) j = at0 st j := by
      unfold at0
      rw [List.getD_eq_getElem?_getD, List.getD_eq_getElem?_getD, List.getElem?_take, if_pos hj]
    rw [ej]
    exact this
  · rintro ⟨s0, ⟨l, h⟩, m, hm, rfl⟩
    refine ⟨by simp [l], fun j hj => ?_⟩
    rw [at0_put l]
    by_cases e : j = i
    · subst e
      rw [if_pos rfl]
      omega
    · rw [if_neg e]
      exact h j (by omega)
/-- a jar's group and what is more, as the law holds it -/
def SmAt (H : Hp) (v : V) (s : Sh) : Prop := ∃ t g, v = .ref t ∧ H t = some (.tup [.ref g, .int s.more]) ∧ H g = some (.tup (vi s.g))
theorem SmAt.same {H H' : Hp} {v : V} {s : Sh} (e : Same H H') (h : SmAt H v s) : SmAt H' v s := by
  obtain ⟨t, g, rfl, h1, h2⟩ := h
  exact ⟨t, g, rfl, e _ _ h1, e _ _ h2⟩
theorem SmAt.fr {w : Addr} {H H' : Hp} {u : HO} {v : V} {s : Sh} (e : Fr w H H') (hw : H w = some u) (hb : Blank u) (h : SmAt H v s) : SmAt H' v s := by
  obtain ⟨t, g, rfl, h1, h2⟩ := h
  exact ⟨t, g, rfl, fr_no e hw hb h1 nbT, fr_no e hw hb h2 nbT⟩
theorem SmAt.cong {H : Hp} {v : V} {s t : Sh} (h : SmAt H v s) (e1 : s.g = t.g) (e2 : s.more = t.more) : SmAt H v t := by
  obtain ⟨q, g, rfl, h1, h2⟩ := h
  exact ⟨q, g, rfl, e2 ▸ h1, e1 ▸ h2⟩
def SmsAt (H : Hp) (a : Addr) (l : List Sh) : Prop := ∃ us, H a = some (.lst us) ∧ A2 (SmAt H) us l
def goneL (caps : List Int) (d : D) (l : List Sh) (first : Bool) : List Sh := if d.ischange = true then d.only caps l else if first = true then d.way1 caps l else d.way2 caps l
section
variable {K : PySem.W.Frag} {mg : Str → Option Value}
def spLstarts (T : Tx K mg) : Sp := fun vs H Q _ => ∃ (c : Addr) (caps : List Int) (p : Int), vs = [.ref c, .int p] ∧ H c = some (.lst (vi caps)) ∧ caps.length ≤ 3 ∧ (∀ x ∈ caps, 1 ≤ x ∧ x ≤ 2) ∧ 1 ≤ p ∧ p ≤ 4 ∧
  ∀ (H' : Hp) (q : Addr) (ts : List V) (sts : List (List Int)), H q = none → H' q = some (.lst ts) → A2 (TupJ H') ts sts → (∀ st, st ∈ sts ↔ Upto caps p caps.length st) → ts.length ≤ 1000 → Same H H' → Q (.ref q) H'
def spLcometo (T : Tx K mg) : Sp := fun vs H Q _ => ∃ (g a : Addr) (gs st : List Int), vs = [.ref g, .ref a] ∧ SqT K H g (vi gs) ∧ SqT K H a (vi st) ∧ GoodG st.length gs ∧ gs.length ≤ 6 ∧ ∀ H', Same H H' → Q (.int (gsum st gs)) H'
def spLtest (T : Tx K mg) : Sp := fun vs H Q _ => ∃ (c a : Addr) (v : V) (caps : List Int) (d : D) (l : List Sh), vs = [.ref c, v, .ref a] ∧ H c = some (.lst (vi caps)) ∧ FactAt H v d ∧ d.ok caps ∧ SmsAt H a l ∧ Shs caps l ∧ d.ischange = false ∧
  ∀ (H' : Hp) (p g : Addr), H' p = some (.tup [.ref g, .int (d.limit caps l)]) → H' g = some (.tup (vi (d.share l).g)) → Same H H' → Q (.ref p) H'
def spLgone (T : Tx K mg) : Sp := fun vs H Q _ => ∃ (c a : Addr) (v : V) (caps : List Int) (d : D) (l : List Sh) (b : Bool), vs = [.ref c, v, .ref a, .bl b] ∧ H c = some (.lst (vi caps)) ∧ FactAt H v d ∧ d.ok caps ∧ SmsAt H a l ∧ Shs caps l ∧
  ∀ (H' : Hp) (p : Addr), H p = none → SmsAt H' p (goneL caps d l b) → Same H H' → Q (.ref p) H'
end
section
variable {P : Program} {w : World} {K : PySem.W.Frag} {mg : Str → Option Value} {base : Heap}
theorem okLcometo (T : Tx K mg) : FnOk P w K mg base CX0 1 T.aLcometo T.dLcometo ["_law_group", "_law_start"] (spLcometo T) := by
  refine T.fLcometo.ok scLcometo (fun vs H Q E h => ?_) (fun cdv A outer s H vs Q E hr h => ?_)
  · obtain ⟨g, a, gs, st, rfl, _⟩ := h
    rfl
  · obtain ⟨g, a, gs, st, rfl, hg, ha, hb, hl, hq⟩ := h
    refine ⟨_, (pss_one (ps_ret (pe_callB (cr_sum rfl) rfl T.nsum (by decide +kernel) (pa_cons (pe_lc (own := [("_law_jar", 2)]) rfl scLcometo.nd (pi_tup (pv 0)) (blkOk_by (own := [("_law_jar", 2)]) (N := ["_law_group", "_law_start", "_law_jar"]) (sc := defScope sLcometo) (by decide +kernel)) (fun _ _ _ _ _ => (pg_name (i := 2) scLcometo.nd rfl (by first | exact Or.inl rfl | exact Or.inr rfl))) (fun _ _ _ _ _ => pts_nil) (fun _ _ _ _ _ => (pe_ix (r := rIxT K) ix_tup (pv 1) (pv 2) (fun _ _ => rfl)))) pa_nil)))), ?_⟩
    refine ⟨_, rfl, g, rfl, ⟨_, hg⟩, fun D hD => ?_⟩
    refine lc_tup (K := K) (a := g) (xs := vi gs) (fun i H' => H' D = some (.lst (vi ((gs.take i).map fun j => at0 st j.toNat))) ∧ Same H H') ⟨upd_same, same_new hD⟩ (fun i H' _ h => sameT h.2 hg) ?_ ?_
    · rintro i y H' hi ⟨g1, sm⟩
      obtain ⟨z, hz, rfl⟩ := vi_get hi
      obtain ⟨z0, z1⟩ := hb z (List.mem_of_getElem? hz)
      obtain ⟨n, rfl⟩ : ∃ n : Nat, z = n := ⟨z.toNat, by omega⟩
      have n1 : n < st.length := by omega
      refine ⟨rfl, _, rfl, _, rfl, a, _, _, _, rfl, rfl, sameT sm ha, vi_at n1, _, g1, Nat.lt_of_lt_of_le (by rw [List.length_map, List.length_map, List.length_take]; omega : _ < 100) (by decide), ?_, same_mut sm hD⟩
      rw [upd_same]
      exact congrArg (fun l => some (HO.lst l)) (vi_snocT (F := fun j => at0 st j.toNat) hz)
    · rintro H' ⟨g1, sm⟩
      rw [List.length_map, List.take_length] at g1
      exact ⟨D, _, rfl, SqL.of g1, hq H' sm⟩
theorem okLstarts (T : Tx K mg) : FnOk P w K mg base CX0 1 T.aLstarts T.dLstarts ["_law_sizes", "_law_share"] (spLstarts T) := by
  refine T.fLstarts.ok scLstarts (fun vs H Q E h => ?_) (fun cdv A outer s H vs Q E hr h => ?_)
  · obtain ⟨c, caps, p, rfl, _⟩ := h
    rfl
  · obtain ⟨c, caps, p, rfl, hc, c3, h2, p1, p4, hq⟩ := h
    refine ⟨_, (pss_cons (ps_set (i := 2) scLstarts.nd rfl (by first | exact Or.inl rfl | exact Or.inr rfl) (pe_lst (pa_cons (pe_tup pa_nil) pa_nil)))
      (pss_cons (ps_for PassesOwn.never rfl (pi_list (pv 0)) (pg_name (i := 3) scLstarts.nd rfl (by first | exact Or.inl rfl | exact Or.inr rfl)) (pss_cons (ps_set (i := 4) scLstarts.nd rfl (by first | exact Or.inl rfl | exact Or.inr rfl) (pe_lst pa_nil))
      (pss_cons (ps_for PassesOwn.never rfl (pi_list (pv 2)) (pg_name (i := 5) scLstarts.nd rfl (by first | exact Or.inl rfl | exact Or.inr rfl)) (pss_one (ps_set (i := 4) scLstarts.nd rfl (by first | exact Or.inl rfl | exact Or.inr rfl) (pe_op op_catR (pv 4) (pe_lc (own := [("_law_number", 6)]) rfl scLstarts.nd (pi_range1 rfl T.nrange (pa_cons (pe_op op_add (pe_op op_mul (pv 3) (pv 1)) pe_int) pa_nil)) (blkOk_by (own := [("_law_number", 6)]) (N := ["_law_sizes", "_law_share", "_law_found", "_law_size", "_law_longer", "_law_start", "_law_number"]) (sc := defScope sLstarts) (by decide +kernel)) (fun _ _ _ _ _ => (pg_name (i := 6) scLstarts.nd rfl (by first | exact Or.inl rfl | exact Or.inr rfl))) (fun _ _ _ _ _ => pts_nil) (fun _ _ _ _ _ => (pe_op op_catS (pv 5) (pe_tup (pa_cons (pv 6) pa_nil)))))))))
      (pss_one (ps_set (i := 2) scLstarts.nd rfl (by first | exact Or.inl rfl | exact Or.inr rfl) (pv 4))))))
      (pss_one (ps_ret (pv 2))))), ?_⟩
    refine ⟨(by show 0 ≤ sizeLine; decide), fun t0 ht0 => ⟨(by show 1 ≤ sizeLine; decide), fun f0 hf0 => ?_⟩⟩
    have s1 := (same_new (o := .tup []) ht0).trans (same_new (o := .lst [V.ref t0]) hf0)
    have f00 : H f0 = none := (same_new (o := .tup []) ht0).free hf0
    have base0 : ∀ st, st ∈ ([[]] : List (List Int)) ↔ Upto caps p 0 st := fun st => by
      rw [List.mem_singleton]
      exact ⟨fun e => by subst e; exact ⟨rfl, fun j hj => absurd hj (Nat.not_lt_zero _)⟩, fun h => List.length_eq_zero_iff.mp h.1⟩
    refine ⟨_, rfl, c, rfl, ⟨_, SqL.of (s1 _ _ hc)⟩, ?_⟩
    refine for_list (K := K) (a := c) (xs := vi caps) (fun i σ H' => ∃ (f : Addr) (v3 v4 v5 v6 : Option V) (ts : List V) (sts : List (List Int)), σ = [some (.ref c), some (.int p), some (.ref f), v3, v4, v5, v6] ∧ H f = none ∧ H' f = some (.lst ts) ∧ A2 (TupJ H') ts sts ∧ (∀ st, st ∈ sts ↔ Upto caps p i st) ∧ ts.length ≤ 10 ^ i ∧ Same H H')
      ⟨f0, none, none, none, none, [.ref t0], [[]], rfl, f00, upd_same, ⟨⟨t0, rfl, same_new hf0 _ _ upd_same⟩, trivial⟩, base0, Nat.le_refl 1, s1⟩ (fun i σ H' _ ⟨_, _, _, _, _, _, _, _, _, _, _, _, _, e⟩ => SqL.of (e _ _ hc)) ?_ ?_
    · rintro i y σ H0 hi ⟨f, v3, v4, v5, v6, ts, sts, rfl, f0', hf, hA, hP, hl, sm⟩
      obtain ⟨z, hz, rfl⟩ := vi_get hi
      have lt : i < caps.length := (List.getElem?_eq_some_iff.mp hz).1
      have ez := at0_of hz
      have z2 := h2 z (List.mem_of_getElem? hz)
      have tlen : ts.length ≤ 100 := by
        have : 10 ^ i ≤ 10 ^ 2 := Nat.pow_le_pow_right (by decide) (by omega)
        omega
      have zp0 : 0 ≤ z * p := Int.mul_nonneg (by omega) (by omega)
      have zp : z * p ≤ 2 * 4 := Int.mul_le_mul z2.2 p4 (by omega) (by decide)
      refine ⟨(by show 0 ≤ sizeLine; decide), fun l0 hl0 => ?_⟩
      have s2 := same_new (o := .lst []) hl0
      refine ⟨_, rfl, f, rfl, ⟨_, SqL.of (s2 _ _ hf)⟩, ?_⟩
      refine for_list (K := K) (a := f) (xs := ts) (fun j σ H' => ∃ (l : Addr) (v5 v6 : Option V) (us : List V) (sus : List (List Int)), σ = [some (.ref c), some (.int p), some (.ref f), some (.int z), some (.ref l), v5, v6] ∧ H0 l = none ∧ H' l = some (.lst us) ∧ A2 (TupJ H') us sus ∧ (∀ st, st ∈ sus ↔ ∃ s0 ∈ sts.take j, ∃ m : Nat, (m : Int) ≤ z * p ∧ st = s0 ++ [(m : Int)]) ∧ us.length ≤ 10 * j ∧ Same H0 H')
        ⟨l0, v5, v6, [], [], rfl, hl0, upd_same, trivial, (fun st => by simp), Nat.le_refl 0, s2⟩ (fun i σ H' _ ⟨_, _, _, _, _, _, _, _, _, _, _, e⟩ => SqL.of (e _ _ hf)) ?_ ?_
      · rintro j y σ H1 hj ⟨l, v5, v6, us, sus, rfl, l00, hl1, hA1, hP1, hn1, sm1⟩
        obtain ⟨st, hst, hy⟩ := hA.get hj
        obtain ⟨t, rfl, ht⟩ := hy.same sm1
        have lst := ((hP st).mp (List.mem_of_getElem? hst)).1
        have jl : j < ts.length := (List.getElem?_eq_some_iff.mp hj).1
        refine ⟨_, rfl, _, rfl, _, rfl, _, _, rfl, rfl, .inl ⟨by omega, by omega⟩, _, _, rfl, rfl, _, rfl, ?_⟩
        have big : ((2 : Int) ^ 62) > 1000 := by decide
        refine ⟨by omega, by omega, fun D1 hD => ?_⟩
        have s4 : Same H1 (upd H1 D1 (.lst [])) := same_new hD
        refine lc_range (lo := 0) (n := (z * p + 1).toNat) (fun k H' => ∃ (ws : List V), H' D1 = some (.lst ws) ∧ A2 (TupJ H') ws ((List.range k).map fun m : Nat => st ++ [(m : Int)]) ∧ ws.length = k ∧ Same H1 H') ⟨[], upd_same, trivial, rfl, s4⟩ ?_ ?_
        · rintro k H' hk ⟨ws, g1, gA, gl, sm4⟩
          refine ⟨rfl, ?_⟩
          refine ⟨_, rfl, _, rfl, (by show 1 ≤ sizeLine; decide), fun n1 hn1 => ?_⟩
          have s5 := same_new (o := .tup [V.int (0 + (k : Int))]) hn1
          have ht5 := (sm4.trans s5) _ _ ht
          have stl : st.length ≤ 10 := by omega
          refine ⟨t, n1, vi st, [V.int (0 + (k : Int))], rfl, rfl, ht5, upd_same, Nat.le_trans (by simp; omega : (vi st).length + [V.int (0 + (k : Int))].length ≤ 100) (by decide), fun tt G sG hG => ?_⟩
          have gD := sG _ _ (s5 _ _ g1)
          have fD : Fr D1 G (upd G D1 (.lst (ws ++ [V.ref tt]))) := fr_mut (Fr.refl _ _)
          refine ⟨ws, gD, Nat.lt_of_lt_of_le (by omega : ws.length < 100) (by decide), ws ++ [.ref tt], upd_same, ?_, by simp [gl], same_mut ((sm4.trans s5).trans sG) hD⟩
          rw [List.range_succ, List.map_append]
          refine A2.app (A2.mono (fun _ _ q => (q.same (s5.trans sG)).fr fD gD bl_l) gA) ⟨TupJ.fr fD gD bl_l ⟨tt, rfl, by rw [hG, Int.zero_add]; simp [vi]⟩, trivial⟩
        · rintro H' ⟨ws, g1, gA, gl, sm4⟩
          have wl : ws.length ≤ 10 := by omega
          refine ⟨l, D1, us, ws, rfl, rfl, SqL.of (sm4 _ _ hl1), SqL.of g1, Nat.le_trans (by omega : us.length + ws.length ≤ 100000) (by decide), fun q hq1 => ?_⟩
          have s5 := same_new (o := .lst (us ++ ws)) hq1
          refine ⟨q, _, _, us ++ ws, sus ++ (List.range (z * p + 1).toNat).map (fun m : Nat => st ++ [(m : Int)]), rfl, (sm1.trans sm4).free hq1, upd_same, A2.app (A2.mono (fun _ _ k => k.same (sm4.trans s5)) hA1) (A2.mono (fun _ _ k => k.same s5) gA), fun s => ?_, by rw [List.length_append]; omega, (sm1.trans sm4).trans s5⟩
          rw [List.mem_append, hP1, List.take_add_one, hst]
          constructor
          · rintro (⟨s0, h0, m, hm, e⟩ | h)
            · exact ⟨s0, List.mem_append.mpr (.inl h0), m, hm, e⟩
            · obtain ⟨m, hm, rfl⟩ := List.mem_map.mp h
              have := List.mem_range.mp hm
              exact ⟨st, List.mem_append.mpr (.inr (List.mem_singleton.mpr rfl)), m, by omega, rfl⟩
          · rintro ⟨s0, h0, m, hm, e⟩
            rcases List.mem_append.mp h0 with h | h
            · exact .inl ⟨s0, h, m, hm, e⟩
            · obtain rfl : s0 = st := by simpa using h
              exact .inr (List.mem_map.mpr ⟨m, List.mem_range.mpr (by omega), e.symm⟩)
      · rintro σ H1 ⟨l, v5, v6, us, sus, rfl, l00, hl1, hA1, hP1, hn1, sm1⟩
        refine ⟨_, rfl, l, _, _, _, _, us, sus, rfl, sm.free l00, hl1, hA1, fun st => ?_, ?_, sm.trans sm1⟩
        · rw [hP1, hA.len, List.take_length, upto_succ, ez]
          exact ⟨fun ⟨s0, h0, k⟩ => ⟨s0, (hP s0).mp h0, k⟩, fun ⟨s0, h0, k⟩ => ⟨s0, (hP s0).mpr h0, k⟩⟩
        · rw [Nat.pow_succ]
          omega
    · rintro σ H1 ⟨f, v3, v4, v5, v6, ts, sts, rfl, f0', hf, hA, hP, hl, sm⟩
      rw [List.length_map] at hP hl
      refine ⟨_, rfl, hq _ f ts sts f0' hf hA hP ?_ sm⟩
      have : 10 ^ caps.length ≤ 10 ^ 3 := Nat.pow_le_pow_right (by decide) c3
      omega
end
end Kp

namespace Kp
open PySem PySem.Spec PyProof.Rows L2 KpR
theorem SmsAt.at {H : Hp} {a : Addr} {l : List Sh} {i : Nat} (h : SmsAt H a l) (hi : i < l.length) : ∃ us t g, H a = some (.lst us) ∧ atI us (i : Int) = some (.ref t) ∧ H t = some (.tup [.ref g, .int (atS l i).more]) ∧ H g = some (.tup (vi (atS l i).g)) := by
  obtain ⟨us, h1, h2⟩ := h
  obtain ⟨v, e, _, t, g, rfl, q1, q2⟩ := A2at h2 (atS_get hi)
  exact ⟨us, t, g, h1, e, q1, q2⟩
theorem SmsAt.same {H H' : Hp} {a : Addr} {l : List Sh} (e : Same H H') (h : SmsAt H a l) : SmsAt H' a l := by
  obtain ⟨us, h1, h2⟩ := h
  exact ⟨us, e _ _ h1, A2.mono (fun _ _ q => q.same e) h2⟩
theorem ixN_nat {n i : Nat} (h : i < n) : ixN n (i : Int) = some i := by
  have e : atI (List.range n) (i : Int) = some i := atI_nat (by simp [h])
  unfold atI at e
  cases z : ixN (List.range n).length (i : Int) with
  | none => rw [z] at e; cases e
  | some j =>
    rw [z] at e
    have e2 : (List.range n)[j]? = some i := e
    have hj := (List.getElem?_eq_some_iff.mp e2).2
    rw [List.getElem_range] at hj
    subst hj
    simpa using z
theorem pick2T {x y : V} {c : Bool} : atI [x, y] (if c = true then 1 else 0) = some (if c = true then y else x) := by cases c <;> rfl
section
variable {P : Program} {w : World} {K : PySem.W.Frag} {mg : Str → Option Value} {base : Heap}
theorem okLtest (T : Tx K mg) : FnOk P w K mg base CX0 1 T.aLtest T.dLtest ["_law_sizes", "_law_deed_here", "_law_sums"] (spLtest T) := by
  refine T.fLtest.ok scLtest (fun vs H Q E h => ?_) (fun cdv A outer s H vs Q E hr h => ?_)
  · obtain ⟨c, a, v, caps, d, l, rfl, _⟩ := h
    rfl
  · obtain ⟨c, a, v, caps, d, l, rfl, hc, ⟨tv, rfl, ht⟩, ok, hS, hsh, nc, hq⟩ := h
    refine ⟨_, (pss_cons (ps_asg (pv 1) (pg_tup rfl (pgs_cons (pg_name (i := 3) scLtest.nd rfl (by first | exact Or.inl rfl | exact Or.inr rfl)) (pgs_cons (pg_name (i := 4) scLtest.nd rfl (by first | exact Or.inl rfl | exact Or.inr rfl)) (pgs_cons (pg_name (i := 5) scLtest.nd rfl (by first | exact Or.inl rfl | exact Or.inr rfl)) pgs_nil)))))
      (pss_cons (ps_if (pt_cmpR op_eq (pv 3) pe_str (nomark _)) (pss_one (ps_ret (pe_tup (pa_cons (pe_callTy call_tuple_of rfl T.ntuple (by decide +kernel) (pa_cons (pe_callB cr_srt rfl T.nsorted (by decide +kernel) (pa_cons (pe_op op_catS (pe_ix (r := rIxT K) ix_tup (pe_ix (r := rIxL K) ix_list (pv 2) (pv 4) (fun _ _ => rfl)) pe_int (fun _ _ => rfl)) (pe_ix (r := rIxT K) ix_tup (pe_ix (r := rIxL K) ix_list (pv 2) (pv 5) (fun _ _ => rfl)) pe_int (fun _ _ => rfl))) pa_nil)) pa_nil)) (pa_cons (pe_op op_sub (pe_op op_sub (pe_ix (r := rIxL K) ix_list (pv 0) (pv 5) (fun _ _ => rfl)) (pe_ix (r := rIxT K) ix_tup (pe_ix (r := rIxL K) ix_list (pv 2) (pv 4) (fun _ _ => rfl)) pe_int (fun _ _ => rfl))) (pe_ix (r := rIxT K) ix_tup (pe_ix (r := rIxL K) ix_list (pv 2) (pv 5) (fun _ _ => rfl)) pe_int (fun _ _ => rfl))) pa_nil))))) pss_nil)
      (pss_cons (ps_if (pt_cmpR op_eq (pv 3) pe_str (nomark _)) (pss_one (ps_ret (pe_tup (pa_cons (pe_ix (r := rIxT K) ix_tup (pe_ix (r := rIxL K) ix_list (pv 2) (pv 4) (fun _ _ => rfl)) pe_int (fun _ _ => rfl)) (pa_cons (pe_op op_sub (pe_op op_sub (pe_ix (r := rIxL K) ix_list (pv 0) (pv 4) (fun _ _ => rfl)) (pe_ix (r := rIxT K) ix_tup (pe_ix (r := rIxL K) ix_list (pv 2) (pv 4) (fun _ _ => rfl)) pe_int (fun _ _ => rfl))) (pv 5)) pa_nil))))) pss_nil)
      (pss_one (ps_ret (pe_tup (pa_cons (pe_ix (r := rIxT K) ix_tup (pe_ix (r := rIxL K) ix_list (pv 2) (pv 4) (fun _ _ => rfl)) pe_int (fun _ _ => rfl)) (pa_cons (pe_op op_sub (pv 5) (pe_ix (r := rIxT K) ix_tup (pe_ix (r := rIxL K) ix_list (pv 2) (pv 4) (fun _ _ => rfl)) pe_int (fun _ _ => rfl))) pa_nil)))))))), ?_⟩
    have hl := hsh.len
    refine ⟨_, rfl, tv, _, rfl, SqT.of ht, rfl, _, _, rfl, _, _, rfl, _, _, rfl, rfl, ?_⟩
    cases d with
    | change x b => cases nc
    | pour x b =>
      obtain ⟨us, tx, gx, ha, ex, hx1, hx2⟩ := hS.at (i := x) (by rw [hl]; exact ok.1)
      obtain ⟨us', tb, gb, ha', eb, hb1, hb2⟩ := hS.at (i := b) (by rw [hl]; exact ok.2.1)
      cases ha.symm.trans ha'
      have two := glen_two (l := l) (a := x) (b := b) (by rw [hl]; exact ok.1) (by rw [hl]; exact ok.2.1) ok.2.2
      have h6 := hsh.few
      have l1 : (vi (atS l x).g).length = (atS l x).g.length := List.length_map ..
      have l2 : (vi (atS l b).g).length = (atS l b).g.length := List.length_map ..
      refine ⟨_, rfl, rfl, _, rfl, ifT (show decide (V.str "pour" = V.str "pour") = true by decide +kernel) ?_⟩
      refine ⟨_, rfl, _, rfl, a, _, _, _, rfl, rfl, SqL.of ha, ex, tx, _, _, _, rfl, rfl, SqT.of hx1, rfl, _, rfl, _, rfl, a, _, _, _, rfl, rfl, SqL.of ha, eb, tb, _, _, _, rfl, rfl, SqT.of hb1, rfl, gx, gb, _, _, rfl, rfl, hx2, hb2, Nat.le_of_lt (small1000 (by omega)), fun c1 H1 s1 hc1 => ?_⟩
      have ec : vi (atS l x).g ++ vi (atS l b).g = vi ((atS l x).g ++ (atS l b).g) := (List.map_append ..).symm
      rw [ec] at hc1
      refine ⟨c1, _, rfl, .inr (SqT.of hc1), by rw [List.length_append]; omega, fun ns r pe pw hr0 => ?_⟩
      obtain rfl := srtI_of pe pw
      have s2 := s1.trans (same_new (o := .lst (vi (srtI ((atS l x).g ++ (atS l b).g)))) hr0)
      refine ⟨r, _, rfl, .inl ⟨SqL.of upd_same, fun c2 hc2 => ?_⟩⟩
      have s3 := s2.trans (same_new (o := .tup (vi (srtI ((atS l x).g ++ (atS l b).g)))) hc2)
      have h3 : (upd (upd H1 r (.lst (vi (srtI ((atS l x).g ++ (atS l b).g))))) c2 (.tup (vi (srtI ((atS l x).g ++ (atS l b).g))))) c2 = some (.tup (vi (srtI ((atS l x).g ++ (atS l b).g)))) := upd_same
      show _
      generalize hH3 : upd (upd H1 r (.lst (List.map V.int (srtI ((atS l x).g ++ (atS l b).g))))) c2 (.tup (List.map V.int (srtI ((atS l x).g ++ (atS l b).g)))) = H3
      have s3 : Same H H3 := by rw [← hH3]; exact s3
      have h3 : H3 c2 = some (.tup (vi (srtI ((atS l x).g ++ (atS l b).g)))) := by rw [← hH3]; exact h3
      refine ⟨_, rfl, _, rfl, c, _, _, _, rfl, rfl, SqL.of (s3 _ _ hc), vi_at ok.2.1, _, rfl, _, rfl, a, _, _, _, rfl, rfl, SqL.of (s3 _ _ ha), ex, tx, _, _, _, rfl, rfl, SqT.of (s3 _ _ hx1), rfl, _, _, rfl, rfl, _, rfl, _, rfl, a, _, _, _, rfl, rfl, SqL.of (s3 _ _ ha), eb, tb, _, _, _, rfl, rfl, SqT.of (s3 _ _ hb1), rfl, _, _, rfl, rfl, (by show 2 ≤ sizeLine; decide), fun p hp => ?_⟩
      refine hq _ p c2 ?_ ((same_new hp) _ _ h3) (s3.trans (same_new hp))
      rw [upd_same]
      have e : at0 caps b - (atS l x).more - (atS l b).more = at0 caps b - ((atS l x).more + (atS l b).more) := by omega
      exact congrArg (fun z => some (HO.tup [V.ref c2, V.int z])) e
    | put x k =>
      obtain ⟨us, tx, gx, ha, ex, hx1, hx2⟩ := hS.at (i := x) (by rw [hl]; exact ok.1)
      refine ⟨_, rfl, rfl, _, rfl, ifF (show decide (V.str "put" = V.str "pour") = false by decide +kernel) ⟨_, rfl, rfl, _, rfl, ifT (show decide (V.str "put" = V.str "put") = true by decide +kernel) ?_⟩⟩
      refine ⟨_, rfl, _, rfl, a, _, _, _, rfl, rfl, SqL.of ha, ex, tx, _, _, _, rfl, rfl, SqT.of hx1, rfl, _, rfl, _, rfl, c, _, _, _, rfl, rfl, SqL.of hc, vi_at ok.1, _, rfl, _, rfl, a, _, _, _, rfl, rfl, SqL.of ha, ex, tx, _, _, _, rfl, rfl, SqT.of hx1, rfl, _, _, rfl, rfl, _, rfl, _, _, rfl, rfl, (by show 2 ≤ sizeLine; decide), fun p hp => ?_⟩
      exact hq _ p gx upd_same ((same_new hp) _ _ hx2) (same_new hp)
    | draw x k =>
      obtain ⟨us, tx, gx, ha, ex, hx1, hx2⟩ := hS.at (i := x) (by rw [hl]; exact ok.1)
      refine ⟨_, rfl, rfl, _, rfl, ifF (show decide (V.str "draw" = V.str "pour") = false by decide +kernel) ⟨_, rfl, rfl, _, rfl, ifF (show decide (V.str "draw" = V.str "put") = false by decide +kernel) ?_⟩⟩
      refine ⟨_, rfl, _, rfl, a, _, _, _, rfl, rfl, SqL.of ha, ex, tx, _, _, _, rfl, rfl, SqT.of hx1, rfl, _, rfl, _, rfl, _, rfl, a, _, _, _, rfl, rfl, SqL.of ha, ex, tx, _, _, _, rfl, rfl, SqT.of hx1, rfl, _, _, rfl, rfl, (by show 2 ≤ sizeLine; decide), fun p hp => ?_⟩
      exact hq _ p gx upd_same ((same_new hp) _ _ hx2) (same_new hp)
theorem okLgone (T : Tx K mg) : FnOk P w K mg base CX0 1 T.aLgone T.dLgone ["_law_sizes", "_law_deed_here", "_law_sums", "_law_first"] (spLgone T) := by
  refine T.fLgone.ok scLgone (fun vs H Q E h => ?_) (fun cdv A outer s H vs Q E hr h => ?_)
  · obtain ⟨c, a, v, caps, d, l, b, rfl, _⟩ := h
    rfl
  · obtain ⟨c, a, v, caps, d, l, fb, rfl, hc, ⟨tv, rfl, ht⟩, ok, hS, hsh, hq⟩ := h
    refine ⟨_, (pss_cons (ps_asg (pv 1) (pg_tup rfl (pgs_cons (pg_name (i := 4) scLgone.nd rfl (by first | exact Or.inl rfl | exact Or.inr rfl)) (pgs_cons (pg_name (i := 5) scLgone.nd rfl (by first | exact Or.inl rfl | exact Or.inr rfl)) (pgs_cons (pg_name (i := 6) scLgone.nd rfl (by first | exact Or.inl rfl | exact Or.inr rfl)) pgs_nil)))))
      (pss_cons (ps_set (i := 7) scLgone.nd rfl (by first | exact Or.inl rfl | exact Or.inr rfl) (pe_callTy call_list_of rfl T.nlist (by decide +kernel) (pa_cons (pv 2) pa_nil)))
      (C8.pss_cut (ps_if (pt_cmpR op_eq (pv 4) pe_str (nomark _)) (pss_one (ps_asg (pe_tup (pa_cons (pe_ix (r := rIxL K) ix_list (pv 2) (pv 6) (fun _ _ => rfl)) (pa_cons (pe_ix (r := rIxL K) ix_list (pv 2) (pv 5) (fun _ _ => rfl)) pa_nil))) (pg_tup rfl (pgs_cons (pg_sub (pv 7) (pv 5) set_list) (pgs_cons (pg_sub (pv 7) (pv 6) set_list) pgs_nil))))) (pss_one (ps_if (pt_cmpR op_eq (pv 4) pe_str (nomark _)) (pss_cons (ps_par (i := 8) (j := 9) rfl scLgone.nd rfl rfl (by decide) rfl rfl (pa_cons (pe_callTy call_tuple_of rfl T.ntuple (by decide +kernel) (pa_cons (pe_callB cr_srt rfl T.nsorted (by decide +kernel) (pa_cons (pe_op op_catS (pe_ix (r := rIxT K) ix_tup (pe_ix (r := rIxL K) ix_list (pv 2) (pv 5) (fun _ _ => rfl)) pe_int (fun _ _ => rfl)) (pe_ix (r := rIxT K) ix_tup (pe_ix (r := rIxL K) ix_list (pv 2) (pv 6) (fun _ _ => rfl)) pe_int (fun _ _ => rfl))) pa_nil)) pa_nil)) (pa_cons (pe_op op_add (pe_ix (r := rIxT K) ix_tup (pe_ix (r := rIxL K) ix_list (pv 2) (pv 5) (fun _ _ => rfl)) pe_int (fun _ _ => rfl)) (pe_ix (r := rIxT K) ix_tup (pe_ix (r := rIxL K) ix_list (pv 2) (pv 6) (fun _ _ => rfl)) pe_int (fun _ _ => rfl))) pa_nil)) rfl)
      (pss_cons (ps_asg (pe_ix (r := rIxL K) ix_list (pe_lst (pa_cons (pe_tup (pa_cons (pv 8) (pa_cons (pe_op op_sub (pv 9) (pe_ix (r := rIxL K) ix_list (pv 0) (pv 6) (fun _ _ => rfl))) pa_nil))) (pa_cons (pe_tup (pa_cons (pe_tup pa_nil) (pa_cons pe_int pa_nil))) pa_nil))) (pe_callTy call_int1 rfl T.nint (by decide +kernel) (pa_cons (pv 3) pa_nil)) (fun _ _ => rfl)) (pg_sub (pv 7) (pv 5) set_list))
      (pss_one (ps_asg (pe_ix (r := rIxL K) ix_list (pe_lst (pa_cons (pe_tup (pa_cons (pe_tup pa_nil) (pa_cons (pe_ix (r := rIxL K) ix_list (pv 0) (pv 6) (fun _ _ => rfl)) pa_nil))) (pa_cons (pe_tup (pa_cons (pv 8) (pa_cons (pv 9) pa_nil))) pa_nil))) (pe_callTy call_int1 rfl T.nint (by decide +kernel) (pa_cons (pv 3) pa_nil)) (fun _ _ => rfl)) (pg_sub (pv 7) (pv 6) set_list))))) (pss_one (ps_if (pt_cmpR op_eq (pv 4) pe_str (nomark _)) (pss_one (ps_asg (pe_ix (r := rIxL K) ix_list (pe_lst (pa_cons (pe_tup (pa_cons (pe_tup pa_nil) (pa_cons (pe_ix (r := rIxL K) ix_list (pv 0) (pv 5) (fun _ _ => rfl)) pa_nil))) (pa_cons (pe_tup (pa_cons (pe_ix (r := rIxT K) ix_tup (pe_ix (r := rIxL K) ix_list (pv 2) (pv 5) (fun _ _ => rfl)) pe_int (fun _ _ => rfl)) (pa_cons (pe_op op_add (pe_ix (r := rIxT K) ix_tup (pe_ix (r := rIxL K) ix_list (pv 2) (pv 5) (fun _ _ => rfl)) pe_int (fun _ _ => rfl)) (pv 6)) pa_nil))) pa_nil))) (pe_callTy call_int1 rfl T.nint (by decide +kernel) (pa_cons (pv 3) pa_nil)) (fun _ _ => rfl)) (pg_sub (pv 7) (pv 5) set_list))) (pss_one (ps_asg (pe_ix (r := rIxL K) ix_list (pe_lst (pa_cons (pe_tup (pa_cons (pe_ix (r := rIxT K) ix_tup (pe_ix (r := rIxL K) ix_list (pv 2) (pv 5) (fun _ _ => rfl)) pe_int (fun _ _ => rfl)) (pa_cons (pe_op op_sub (pe_ix (r := rIxT K) ix_tup (pe_ix (r := rIxL K) ix_list (pv 2) (pv 5) (fun _ _ => rfl)) pe_int (fun _ _ => rfl)) (pv 6)) pa_nil))) (pa_cons (pe_tup (pa_cons (pe_tup pa_nil) (pa_cons pe_int pa_nil))) pa_nil))) (pe_callTy call_int1 rfl T.nint (by decide +kernel) (pa_cons (pv 3) pa_nil)) (fun _ _ => rfl)) (pg_sub (pv 7) (pv 5) set_list))))))))
      (pss_one (ps_ret (pv 7)))))), ?_⟩
    have hl := hsh.len
    obtain ⟨us, ha, hA⟩ := id hS
    have ul := hA.len
    refine ⟨_, rfl, tv, _, rfl, SqT.of ht, rfl, _, _, rfl, _, _, rfl, _, _, rfl, rfl, ?_⟩
    refine ⟨_, rfl, a, _, rfl, .inl (SqL.of ha), fun f hf => ?_⟩
    have s0 := same_new (o := .lst us) hf
    have cf : c ≠ f := ne_of_none hc hf
    have af : a ≠ f := ne_of_none ha hf
    refine ⟨fun σ' H' => ∃ (v8 v9 : Option V) (ws : List V), σ' = [some (.ref c), some (.ref tv), some (.ref a), some (.bl fb), some (.str d.word), some (.int d.fst), some (.int d.last), some (.ref f), v8, v9] ∧ H' f = some (.lst ws) ∧ A2 (SmAt H') ws (goneL caps d l fb) ∧ Same H H', ?_, ?_⟩
    rotate_left
    · rintro σ' H' ⟨v8, v9, ws, rfl, h1, h2, sm⟩
      exact ⟨_, rfl, hq H' f hf ⟨ws, h1, h2⟩ sm⟩
    have k1 : (upd H f (.lst us)) f = some (.lst us) := upd_same
    have hA1 : A2 (SmAt (upd H f (.lst us))) us l := A2.mono (fun _ _ q => q.same s0) hA
    have S1 := hS.same s0
    have hc1' := s0 _ _ hc
    have ha1 := s0 _ _ ha
    generalize upd H f (.lst us) = H1 at s0 k1 hA1 S1 hc1' ha1 ⊢
    cases d with
    | change x b =>
      obtain ⟨us', tx, gx, ha', ex, hx1, hx2⟩ := S1.at (i := x) (by rw [hl]; exact ok.1)
      obtain ⟨us'', tb, gb, ha'', eb, hb1, hb2⟩ := S1.at (i := b) (by rw [hl]; exact ok.2.1)
      cases ha1.symm.trans ha'
      cases ha1.symm.trans ha''
      refine ⟨_, rfl, rfl, _, rfl, ifT (show decide (V.str "change" = V.str "change") = true by decide +kernel) ?_⟩
      refine ⟨_, rfl, _, rfl, a, _, _, _, rfl, rfl, SqL.of ha1, eb, _, rfl, _, rfl, a, _, _, _, rfl, rfl, SqL.of ha1, ex, (by show 2 ≤ sizeLine; decide), fun t2 ht2 => ?_⟩
      have lt2 : f ≠ t2 := fun z => by rw [← z, k1] at ht2; cases ht2
      have s2 := same_new (o := .tup [V.ref tb, V.ref tx]) ht2
      refine ⟨t2, _, rfl, SqT.of upd_same, rfl, _, _, rfl, _, rfl, _, rfl, f, _, _, x, rfl, rfl, s2 _ _ k1, ixN_nat (by rw [ul, hl]; exact ok.1), ?_⟩
      refine ⟨_, _, rfl, _, rfl, _, rfl, f, _, _, b, rfl, rfl, upd_same, ixN_nat (by rw [List.length_set, ul, hl]; exact ok.2.1), rfl, ?_⟩
      have fr : Fr f (upd H1 t2 (.tup [V.ref tb, V.ref tx])) _ := fr_mut (o := .lst ((us.set x (V.ref tb)).set b (V.ref tx))) (fr_mut (o := .lst (us.set x (V.ref tb))) (Fr.refl _ _))
      refine ⟨_, _, _, rfl, upd_same, ?_, same_mut (same_mut (s0.trans s2) hf) hf⟩
      have k2 := s2 _ _ k1
      show A2 _ _ ((l.set x (atS l b)).set b (atS l x))
      exact A2.set (SmAt.fr fr k2 bl_l ⟨tx, gx, rfl, s2 _ _ hx1, s2 _ _ hx2⟩) (A2.set (SmAt.fr fr k2 bl_l ⟨tb, gb, rfl, s2 _ _ hb1, s2 _ _ hb2⟩) (A2.mono (fun _ _ q => (q.same s2).fr fr k2 bl_l) hA1))
    | pour x b =>
      obtain ⟨us', tx, gx, ha', ex, hx1, hx2⟩ := S1.at (i := x) (by rw [hl]; exact ok.1)
      obtain ⟨us'', tb, gb, ha'', eb, hb1, hb2⟩ := S1.at (i := b) (by rw [hl]; exact ok.2.1)
      cases ha1.symm.trans ha'
      cases ha1.symm.trans ha''
      have two := glen_two (l := l) (a := x) (b := b) (by rw [hl]; exact ok.1) (by rw [hl]; exact ok.2.1) ok.2.2
      have h6 := hsh.few
      have l1 : (vi (atS l x).g).length = (atS l x).g.length := List.length_map ..
      have l2 : (vi (atS l b).g).length = (atS l b).g.length := List.length_map ..
      refine ⟨_, rfl, rfl, _, rfl, ifF (show decide (V.str "pour" = V.str "change") = false by decide +kernel) ⟨_, rfl, rfl, _, rfl, ifT (show decide (V.str "pour" = V.str "pour") = true by decide +kernel) ?_⟩⟩
      refine ⟨_, rfl, _, rfl, a, _, _, _, rfl, rfl, SqL.of ha1, ex, tx, _, _, _, rfl, rfl, SqT.of hx1, rfl, _, rfl, _, rfl, a, _, _, _, rfl, rfl, SqL.of ha1, eb, tb, _, _, _, rfl, rfl, SqT.of hb1, rfl, gx, gb, _, _, rfl, rfl, hx2, hb2, Nat.le_of_lt (small1000 (by omega)), fun c1 H2 s1 hc1 => ?_⟩
      have ec : vi (atS l x).g ++ vi (atS l b).g = vi ((atS l x).g ++ (atS l b).g) := (List.map_append ..).symm
      rw [ec] at hc1
      refine ⟨c1, _, rfl, .inr (SqT.of hc1), by rw [List.length_append]; omega, fun ns r pe pw hr0 => ?_⟩
      obtain rfl := srtI_of pe pw
      have s2 := s1.trans (same_new (o := .lst (vi (srtI ((atS l x).g ++ (atS l b).g)))) hr0)
      refine ⟨r, _, rfl, .inl ⟨SqL.of upd_same, fun c2 hc2 => ?_⟩⟩
      have s3 := s2.trans (same_new (o := .tup (vi (srtI ((atS l x).g ++ (atS l b).g)))) hc2)
      have h3 : (upd (upd H2 r (.lst (vi (srtI ((atS l x).g ++ (atS l b).g))))) c2 (.tup (vi (srtI ((atS l x).g ++ (atS l b).g))))) c2 = some (.tup (vi (srtI ((atS l x).g ++ (atS l b).g)))) := upd_same
      show _
      generalize hH3 : upd (upd H2 r (.lst (List.map V.int (srtI ((atS l x).g ++ (atS l b).g))))) c2 (.tup (List.map V.int (srtI ((atS l x).g ++ (atS l b).g)))) = H3
      have s3 : Same H1 H3 := by rw [← hH3]; exact s3
      have h3 : H3 c2 = some (.tup (vi (srtI ((atS l x).g ++ (atS l b).g)))) := by rw [← hH3]; exact h3
      clear hH3 s1 s2 hc1 hr0 hc2
      refine ⟨_, rfl, _, rfl, a, _, _, _, rfl, rfl, SqL.of (s3 _ _ ha1), ex, tx, _, _, _, rfl, rfl, SqT.of (s3 _ _ hx1), rfl, _, rfl, _, rfl, a, _, _, _, rfl, rfl, SqL.of (s3 _ _ ha1), eb, tb, _, _, _, rfl, rfl, SqT.of (s3 _ _ hb1), rfl, _, _, rfl, rfl, _, _, rfl, ?_⟩
      have hc3 := s3 _ _ hc1'
      refine ⟨_, rfl, _, rfl, _, rfl, _, rfl, c, _, _, _, rfl, rfl, SqL.of hc3, vi_at ok.2.1, _, _, rfl, rfl, (by show 2 ≤ sizeLine; decide), fun q1 hq1 => ?_⟩
      show _
      generalize hG__ : upd H3 q1 _ = H4
      have y1 : Same H3 H4 := by rw [← hG__]; exact same_new hq1
      have e1 : H4 q1 = some (.tup [V.ref c2, V.int (((atS l x).more + (atS l b).more) - at0 caps b)]) := by rw [← hG__]; exact upd_same
      clear hG__
      have z1 := y1
      refine ⟨(by show 0 ≤ sizeLine; decide), fun q2 hq2 => ?_⟩
      show _
      generalize hG__ : upd H4 q2 _ = H5
      have y2 : Same H4 H5 := by rw [← hG__]; exact same_new hq2
      have e2 : H5 q2 = some (.tup []) := by rw [← hG__]; exact upd_same
      clear hG__
      have e1 := y2 _ _ e1
      have z2 := z1.trans y2
      refine ⟨(by show 2 ≤ sizeLine; decide), fun q3 hq3 => ?_⟩
      show _
      generalize hG__ : upd H5 q3 _ = H6
      have y3 : Same H5 H6 := by rw [← hG__]; exact same_new hq3
      have e3 : H6 q3 = some (.tup [V.ref q2, V.int 0]) := by rw [← hG__]; exact upd_same
      clear hG__
      have e1 := y3 _ _ e1
      have e2 := y3 _ _ e2
      have z3 := z2.trans y3
      refine ⟨(by show 2 ≤ sizeLine; decide), fun q4 hq4 => ?_⟩
      show _
      generalize hG__ : upd H6 q4 _ = H7
      have y4 : Same H6 H7 := by rw [← hG__]; exact same_new hq4
      have e4 : H7 q4 = some (.lst [V.ref q1, V.ref q3]) := by rw [← hG__]; exact upd_same
      clear hG__
      have e1 := y4 _ _ e1
      have e2 := y4 _ _ e2
      have e3 := y4 _ _ e3
      have z4 := z3.trans y4
      have zf := s3.trans z4
      refine ⟨_, rfl, .inr ⟨fb, rfl, q4, _, _, _, rfl, rfl, SqL.of e4, pick2T, _, rfl, _, rfl, f, _, _, x, rfl, rfl, zf _ _ k1, ixN_nat (by rw [ul, hl]; exact ok.1), ?_⟩⟩
      have f1 : Fr f H7 (upd H7 f (.lst (us.set x (if fb = true then V.ref q3 else V.ref q1)))) := fr_mut (Fr.refl _ _)
      have g0 := zf _ _ k1
      have A8 : A2 (SmAt (upd H7 f (.lst (us.set x (if fb = true then V.ref q3 else V.ref q1))))) (us.set x (if fb = true then V.ref q3 else V.ref q1)) (l.set x (if fb = true then Sh.none 0 else (((atS l x).tog (atS l b)).atLeast ((D.pour x b).limit caps l) (-(at0 caps b))))) := by
        refine A2.set ?_ (A2.mono (fun _ _ q => (q.same zf).fr f1 g0 bl_l) hA1)
        cases fb
        · refine SmAt.fr f1 g0 bl_l (SmAt.cong (s := ⟨srtI ((atS l x).g ++ (atS l b).g), ((atS l x).more + (atS l b).more) - at0 caps b, 0, 0⟩) ⟨q1, c2, rfl, e1, z4 _ _ h3⟩ rfl ?_)
          show ((atS l x).more + (atS l b).more) - at0 caps b = (atS l x).more + (atS l b).more + -(at0 caps b)
          omega
        · exact SmAt.fr f1 g0 bl_l (s := Sh.none 0) ⟨q3, q2, rfl, e3, e2⟩
      have c8 : (upd H7 f (.lst (us.set x (if fb = true then V.ref q3 else V.ref q1)))) c = some (.lst (vi caps)) := f1 _ _ cf (zf _ _ hc1')
      have h8 : (upd H7 f (.lst (us.set x (if fb = true then V.ref q3 else V.ref q1)))) c2 = some (.tup (vi (srtI ((atS l x).g ++ (atS l b).g)))) := fr_no f1 g0 bl_l (z4 _ _ h3) nbT
      have k8 : (upd H7 f (.lst (us.set x (if fb = true then V.ref q3 else V.ref q1)))) f = some (.lst (us.set x (if fb = true then V.ref q3 else V.ref q1))) := upd_same
      have s8 : Same H (upd H7 f (.lst (us.set x (if fb = true then V.ref q3 else V.ref q1)))) := same_mut (s0.trans zf) hf
      clear z1 z2 z3 e1 e2 e3 e4 hq1 hq2 hq3 hq4 f1 g0 zf z4
      generalize (upd H7 f (.lst (us.set x (if fb = true then V.ref q3 else V.ref q1)))) = H8 at A8 c8 h8 k8 s8 ⊢
      generalize hus : us.set x (if fb = true then V.ref q3 else V.ref q1) = us8 at A8 k8 ⊢
      have ul8 : us8.length = caps.length := by rw [← hus, List.length_set, ul, hl]
      refine ⟨(by show 0 ≤ sizeLine; decide), fun p2 hp2 => ?_⟩
      show _
      generalize hG__ : upd H8 p2 _ = H9
      have z2 : Same H8 H9 := by rw [← hG__]; exact same_new hp2
      have e2 : H9 p2 = some (.tup []) := by rw [← hG__]; exact upd_same
      clear hG__
      have c9 := z2 _ _ c8
      refine ⟨_, rfl, _, rfl, c, _, _, _, rfl, rfl, SqL.of c9, vi_at ok.2.1, (by show 2 ≤ sizeLine; decide), fun p1 hp1 => ?_⟩
      show _
      generalize hG__ : upd H9 p1 _ = H10
      have y1 : Same H9 H10 := by rw [← hG__]; exact same_new hp1
      have e1 : H10 p1 = some (.tup [V.ref p2, V.int (at0 caps b)]) := by rw [← hG__]; exact upd_same
      clear hG__
      have e2 := y1 _ _ e2
      have z1 := z2.trans y1
      refine ⟨_, rfl, _, rfl, (by show 2 ≤ sizeLine; decide), fun p3 hp3 => ?_⟩
      show _
      generalize hG__ : upd H10 p3 _ = H11
      have y3 : Same H10 H11 := by rw [← hG__]; exact same_new hp3
      have e3 : H11 p3 = some (.tup [V.ref c2, V.int ((atS l x).more + (atS l b).more)]) := by rw [← hG__]; exact upd_same
      clear hG__
      have e1 := y3 _ _ e1
      have e2 := y3 _ _ e2
      have z3 := z1.trans y3
      refine ⟨(by show 2 ≤ sizeLine; decide), fun p4 hp4 => ?_⟩
      show _
      generalize hG__ : upd H11 p4 _ = H12
      have y4 : Same H11 H12 := by rw [← hG__]; exact same_new hp4
      have e4 : H12 p4 = some (.lst [V.ref p1, V.ref p3]) := by rw [← hG__]; exact upd_same
      clear hG__
      have e1 := y4 _ _ e1
      have e2 := y4 _ _ e2
      have e3 := y4 _ _ e3
      have z4 := z3.trans y4
      have k12 := z4 _ _ k8
      refine ⟨_, rfl, .inr ⟨fb, rfl, p4, _, _, _, rfl, rfl, SqL.of e4, pick2T, _, rfl, _, rfl, f, _, _, b, rfl, rfl, k12, ixN_nat (by rw [ul8]; exact ok.2.1), ?_⟩⟩
      have f2 : Fr f H12 (upd H12 f (.lst (us8.set b (if fb = true then V.ref p3 else V.ref p1)))) := fr_mut (Fr.refl _ _)
      refine ⟨_, _, us8.set b (if fb = true then V.ref p3 else V.ref p1), rfl, upd_same, ?_, same_mut (s8.trans z4) hf⟩
      have A9 := A2.mono (fun _ _ q => (SmAt.same z4 q).fr f2 k12 bl_l) A8
      cases fb
      · exact A2.set (SmAt.fr f2 k12 bl_l (s := Sh.none (at0 caps b)) ⟨p1, p2, rfl, e1, e2⟩) A9
      · refine A2.set (SmAt.fr f2 k12 bl_l (SmAt.cong (s := ⟨srtI ((atS l x).g ++ (atS l b).g), ((atS l x).more + (atS l b).more), 0, 0⟩) (t := ((atS l x).tog (atS l b)).atMost ((D.pour x b).limit caps l) 0) ⟨p3, c2, rfl, e3, z4 _ _ h8⟩ rfl ?_)) A9
        show ((atS l x).more + (atS l b).more) = (atS l x).more + (atS l b).more + 0
        omega
    | put x k =>
      obtain ⟨us', tx, gx, ha', ex, hx1, hx2⟩ := S1.at (i := x) (by rw [hl]; exact ok.1)
      cases ha1.symm.trans ha'
      refine ⟨_, rfl, rfl, _, rfl, ifF (show decide (V.str "put" = V.str "change") = false by decide +kernel) ⟨_, rfl, rfl, _, rfl, ifF (show decide (V.str "put" = V.str "pour") = false by decide +kernel) ⟨_, rfl, rfl, _, rfl, ifT (show decide (V.str "put" = V.str "put") = true by decide +kernel) ?_⟩⟩⟩
      refine ⟨(by show 0 ≤ sizeLine; decide), fun p2 hp2 => ?_⟩
      show _
      generalize hG__ : upd H1 p2 _ = H9
      have z2 : Same H1 H9 := by rw [← hG__]; exact same_new hp2
      have e2 : H9 p2 = some (.tup []) := by rw [← hG__]; exact upd_same
      clear hG__
      refine ⟨_, rfl, _, rfl, c, _, _, _, rfl, rfl, SqL.of (z2 _ _ hc1'), vi_at ok.1, (by show 2 ≤ sizeLine; decide), fun p1 hp1 => ?_⟩
      show _
      generalize hG__ : upd H9 p1 _ = H10
      have y1 : Same H9 H10 := by rw [← hG__]; exact same_new hp1
      have e1 : H10 p1 = some (.tup [V.ref p2, V.int (at0 caps x)]) := by rw [← hG__]; exact upd_same
      clear hG__
      have e2 := y1 _ _ e2
      have z1 := z2.trans y1
      refine ⟨_, rfl, _, rfl, a, _, _, _, rfl, rfl, SqL.of (z1 _ _ ha1), ex, tx, _, _, _, rfl, rfl, SqT.of (z1 _ _ hx1), rfl, _, rfl, _, rfl, a, _, _, _, rfl, rfl, SqL.of (z1 _ _ ha1), ex, tx, _, _, _, rfl, rfl, SqT.of (z1 _ _ hx1), rfl, _, rfl, _, _, rfl, rfl, (by show 2 ≤ sizeLine; decide), fun p3 hp3 => ?_⟩
      show _
      generalize hG__ : upd H10 p3 _ = H11
      have y3 : Same H10 H11 := by rw [← hG__]; exact same_new hp3
      have e3 : H11 p3 = some (.tup [V.ref gx, V.int ((atS l x).more + k)]) := by rw [← hG__]; exact upd_same
      clear hG__
      have e1 := y3 _ _ e1
      have e2 := y3 _ _ e2
      have z3 := z1.trans y3
      refine ⟨(by show 2 ≤ sizeLine; decide), fun p4 hp4 => ?_⟩
      show _
      generalize hG__ : upd H11 p4 _ = H12
      have y4 : Same H11 H12 := by rw [← hG__]; exact same_new hp4
      have e4 : H12 p4 = some (.lst [V.ref p1, V.ref p3]) := by rw [← hG__]; exact upd_same
      clear hG__
      have e1 := y4 _ _ e1
      have e2 := y4 _ _ e2
      have e3 := y4 _ _ e3
      have z4 := z3.trans y4
      have k12 := z4 _ _ k1
      refine ⟨_, rfl, .inr ⟨fb, rfl, p4, _, _, _, rfl, rfl, SqL.of e4, pick2T, _, rfl, _, rfl, f, _, _, x, rfl, rfl, k12, ixN_nat (by rw [ul, hl]; exact ok.1), ?_⟩⟩
      have f2 : Fr f H12 (upd H12 f (.lst (us.set x (if fb = true then V.ref p3 else V.ref p1)))) := fr_mut (Fr.refl _ _)
      refine ⟨_, _, us.set x (if fb = true then V.ref p3 else V.ref p1), rfl, upd_same, ?_, same_mut (s0.trans z4) hf⟩
      have A9 := A2.mono (fun _ _ q => (SmAt.same z4 q).fr f2 k12 bl_l) hA1
      cases fb
      · exact A2.set (SmAt.fr f2 k12 bl_l (s := Sh.none (at0 caps x)) ⟨p1, p2, rfl, e1, e2⟩) A9
      · exact A2.set (SmAt.fr f2 k12 bl_l (SmAt.cong (s := ⟨(atS l x).g, (atS l x).more + k, 0, 0⟩) (t := (atS l x).atMost ((D.put x k).limit caps l) k) ⟨p3, gx, rfl, e3, z4 _ _ hx2⟩ rfl rfl)) A9
    | draw x k =>
      obtain ⟨us', tx, gx, ha', ex, hx1, hx2⟩ := S1.at (i := x) (by rw [hl]; exact ok.1)
      cases ha1.symm.trans ha'
      refine ⟨_, rfl, rfl, _, rfl, ifF (show decide (V.str "draw" = V.str "change") = false by decide +kernel) ⟨_, rfl, rfl, _, rfl, ifF (show decide (V.str "draw" = V.str "pour") = false by decide +kernel) ⟨_, rfl, rfl, _, rfl, ifF (show decide (V.str "draw" = V.str "put") = false by decide +kernel) ?_⟩⟩⟩
      refine ⟨_, rfl, _, rfl, a, _, _, _, rfl, rfl, SqL.of ha1, ex, tx, _, _, _, rfl, rfl, SqT.of hx1, rfl, _, rfl, _, rfl, a, _, _, _, rfl, rfl, SqL.of ha1, ex, tx, _, _, _, rfl, rfl, SqT.of hx1, rfl, _, rfl, _, _, rfl, rfl, (by show 2 ≤ sizeLine; decide), fun p1 hp1 => ?_⟩
      show _
      generalize hG__ : upd H1 p1 _ = H9
      have z1 : Same H1 H9 := by rw [← hG__]; exact same_new hp1
      have e1 : H9 p1 = some (.tup [V.ref gx, V.int ((atS l x).more - k)]) := by rw [← hG__]; exact upd_same
      clear hG__
      refine ⟨(by show 0 ≤ sizeLine; decide), fun p2 hp2 => ?_⟩
      show _
      generalize hG__ : upd H9 p2 _ = H10
      have y2 : Same H9 H10 := by rw [← hG__]; exact same_new hp2
      have e2 : H10 p2 = some (.tup []) := by rw [← hG__]; exact upd_same
      clear hG__
      have e1 := y2 _ _ e1
      have z2 := z1.trans y2
      refine ⟨(by show 2 ≤ sizeLine; decide), fun p3 hp3 => ?_⟩
      show _
      generalize hG__ : upd H10 p3 _ = H11
      have y3 : Same H10 H11 := by rw [← hG__]; exact same_new hp3
      have e3 : H11 p3 = some (.tup [V.ref p2, V.int 0]) := by rw [← hG__]; exact upd_same
      clear hG__
      have e1 := y3 _ _ e1
      have e2 := y3 _ _ e2
      have z3 := z2.trans y3
      refine ⟨(by show 2 ≤ sizeLine; decide), fun p4 hp4 => ?_⟩
      show _
      generalize hG__ : upd H11 p4 _ = H12
      have y4 : Same H11 H12 := by rw [← hG__]; exact same_new hp4
      have e4 : H12 p4 = some (.lst [V.ref p1, V.ref p3]) := by rw [← hG__]; exact upd_same
      clear hG__
      have e1 := y4 _ _ e1
      have e2 := y4 _ _ e2
      have e3 := y4 _ _ e3
      have z4 := z3.trans y4
      have k12 := z4 _ _ k1
      refine ⟨_, rfl, .inr ⟨fb, rfl, p4, _, _, _, rfl, rfl, SqL.of e4, pick2T, _, rfl, _, rfl, f, _, _, x, rfl, rfl, k12, ixN_nat (by rw [ul, hl]; exact ok.1), ?_⟩⟩
      have f2 : Fr f H12 (upd H12 f (.lst (us.set x (if fb = true then V.ref p3 else V.ref p1)))) := fr_mut (Fr.refl _ _)
      refine ⟨_, _, us.set x (if fb = true then V.ref p3 else V.ref p1), rfl, upd_same, ?_, same_mut (s0.trans z4) hf⟩
      have A9 := A2.mono (fun _ _ q => (SmAt.same z4 q).fr f2 k12 bl_l) hA1
      cases fb
      · exact A2.set (SmAt.fr f2 k12 bl_l (SmAt.cong (s := ⟨(atS l x).g, (atS l x).more - k, 0, 0⟩) (t := (atS l x).atLeast ((D.draw x k).limit caps l) (-k)) ⟨p1, gx, rfl, e1, z4 _ _ hx2⟩ rfl (by show (atS l x).more - k = (atS l x).more + -k; omega))) A9
      · exact A2.set (SmAt.fr f2 k12 bl_l (s := Sh.none 0) ⟨p3, p2, rfl, e3, e2⟩) A9
end
end Kp

namespace Kp
open PySem PySem.Spec PyProof.Rows L2 KpR
theorem TupJ.fr' {w : Addr} {H H' : Hp} {u : HO} {v : V} {st : List Int} (e : Fr w H H') (hw : H w = some u) (hb : Blank u) (h : TupJ H v st) : TupJ H' v st := h.fr e hw hb
theorem small1000' {n : Nat} (h : n ≤ 1000) : n < sizeLine := Nat.lt_of_le_of_lt h (by decide)
theorem len_ne {α : Type} {R : V → α → Prop} {us : List V} {l : List α} (h : A2 R us l) : us.isEmpty = l.isEmpty := by
  have := h.len
  cases us <;> cases l <;> simp_all
theorem fil_ex {α : Type} {l : List α} {f : α → Bool} : (l.filter f).isEmpty = false ↔ ∃ x ∈ l, f x = true := by
  rw [List.isEmpty_eq_false_iff_exists_mem]
  exact ⟨fun ⟨x, h⟩ => ⟨x, List.mem_filter.mp h⟩, fun ⟨x, h⟩ => ⟨x, List.mem_filter.mpr h⟩⟩
section
variable {K : PySem.W.Frag} {mg : Str → Option Value}
def spLgrown (T : Tx K mg) (m : Nat) : Sp := fun vs H Q _ => ∃ (mt c f a i : Addr) (n : Nat) (p : Int) (caps : List Int) (ts us : List V) (ds : List D) (S : List Sh) (pts : List (List Int)), vs = [.ref mt, .int n, .ref a, .ref i] ∧ H mt = some (.tup [.ref c, .ref f, .int p]) ∧ H c = some (.lst (vi caps)) ∧ H f = some (.lst ts) ∧ A2 (FactAt H) ts ds ∧
  (∀ d ∈ ds, d.ok caps) ∧ ds.length ≤ 20 ∧ n ≤ ds.length ∧ SmsAt H a S ∧ Shs caps S ∧ GoodL caps.length S ∧ (glen S : Int) + 1 ≤ p ∧ 1 ≤ p ∧ p ≤ 100 ∧ H i = some (.lst us) ∧ A2 (TupJ H) us pts ∧ Inside p S pts ∧ (∀ st ∈ pts, st.length = caps.length) ∧ us.length ≤ 1000 ∧ caps.length ≤ 6 ∧ ds.length - n < m ∧
  ∀ (H' : Hp) (x : V), TrAt T H' x (grow caps n (ds.drop n) S) → Same H H' → Q x H'
end
section
variable {P : Program} {w : World} {K : PySem.W.Frag} {mg : Str → Option Value} {base : Heap}
abbrev LgOk (P : Program) (w : World) (K : PySem.W.Frag) (mg : Str → Option Value) (base : Heap) (T : Tx K mg) (m : Nat) : Prop := FnOk P w K mg base CX0 (m + 10) T.aLgrown T.dLgrown ["_law_m", "_law_at", "_law_sums", "_law_inside"] (spLgrown T m)
theorem noLg (T : Tx K mg) : LgOk P w K mg base T 0 := by
  refine T.fLgrown.ok scLgrown (fun vs H Q E h => ?_) (fun cdv A outer s H vs Q E hr0 h => ?_)
  · obtain ⟨mt, c, f, a, i, n, p, caps, ts, us, ds, S, pts, rfl, _⟩ := h
    rfl
  · obtain ⟨mt, c, f, a, i, n, p, caps, ts, us, ds, S, pts, rfl, _, _, _, _, _, _, _, _, _, _, _, _, _, _, _, _, _, _, _, hm, _⟩ := h
    exact absurd hm (Nat.not_lt_zero _)
theorem okLgs (T : Tx K mg) {m : Nat} (hL : LgOk P w K mg base T m) : LgOk P w K mg base T (m + 1) := by
  refine T.fLgrown.ok scLgrown (fun vs H Q E h => ?_) (fun cdv A outer s H vs Q E hr0 h => ?_)
  · obtain ⟨mt, c, f, a, i, n, p, caps, ts, us, ds, S, pts, rfl, _⟩ := h
    rfl
  · have hrL : Room (m + 10) _ := hr0
    have hr : Room 10 _ := hr0.mono (by omega)
    obtain ⟨mt, c, f, a, i, n, p, caps, ts, us, ds, S, pts, rfl, hm, hc, hf, hA, ok, d20, nd, hS, hsh, hG, hp, p1, p100, hi, hP, hI, hlen, u1000, c6, hM, hq⟩ := h
    refine ⟨_, (pss_cons (ps_asg (pv 0) (pg_tup rfl (pgs_cons (pg_name (i := 4) scLgrown.nd rfl (by first | exact Or.inl rfl | exact Or.inr rfl)) (pgs_cons (pg_name (i := 5) scLgrown.nd rfl (by first | exact Or.inl rfl | exact Or.inr rfl)) (pgs_cons (pg_name (i := 6) scLgrown.nd rfl (by first | exact Or.inl rfl | exact Or.inr rfl)) pgs_nil)))))
      (pss_cons (ps_while PassesOwn.never (pt_cmpR op_lt (pv 1) (pe_callB call_len_seq rfl T.nlen PySem.boot_len (pa_cons (pv 5) pa_nil)) (nomark _)) (pss_cons (ps_set (i := 7) scLgrown.nd rfl (by first | exact Or.inl rfl | exact Or.inr rfl) pe_bl)
      (pss_cons (ps_if (pt_cmpR op_ne (pe_ix (r := rIxT K) ix_tup (pe_ix (r := rIxL K) ix_list (pv 5) (pv 1) (fun _ _ => rfl)) pe_int (fun _ _ => rfl)) pe_str (nomark _)) (pss_cons (ps_asg (pe_call (okLtest T) (hr.mono (by decide)) rfl T.gLtest T.fLtest.kp T.bLtest .nil pass0 (pa_cons (pv 4) (pa_cons (pe_ix (r := rIxL K) ix_list (pv 5) (pv 1) (fun _ _ => rfl)) (pa_cons (pv 2) pa_nil)))) (pg_tup rfl (pgs_cons (pg_name (i := 8) scLgrown.nd rfl (by first | exact Or.inl rfl | exact Or.inr rfl)) (pgs_cons (pg_name (i := 9) scLgrown.nd rfl (by first | exact Or.inl rfl | exact Or.inr rfl)) pgs_nil))))
      (pss_cons (ps_setLc (i := 10) (own := [("_law_start", 11)]) rfl scLgrown.nd rfl rfl (sw_true rfl rfl rfl (by decide +kernel)) (pi_list (pv 3)) (blkOk_by (own := [("_law_start", 11)]) (N := ["_law_m", "_law_at", "_law_sums", "_law_inside", "_law_sizes", "_law_deeds", "_law_share", "_law_first", "_law_group", "_law_limit", "_law_below", "_law_start", "_law_above", "_law_one", "_law_other", "_law_extra"]) (sc := defScope sLgrown) (by decide +kernel)) (fun _ _ _ _ _ => (pg_name (i := 11) scLgrown.nd rfl (by first | exact Or.inl rfl | exact Or.inr rfl))) (fun _ _ _ _ _ => (pts_one (pt_cmpR op_lt (pe_call (okLcometo T) (hr.mono (by decide)) rfl T.gLcometo T.fLcometo.kp T.bLcometo .nil pass0 (pa_cons (pv 8) (pa_cons (pv 11) pa_nil))) (pe_op op_mul (pv 9) (pv 6)) (nomark _)))) (fun _ _ _ _ _ => (pv 11)))
      (pss_cons (ps_setLc (i := 12) (own := [("_law_start", 11)]) rfl scLgrown.nd rfl rfl (sw_true rfl rfl rfl (by decide +kernel)) (pi_list (pv 3)) (blkOk_by (own := [("_law_start", 11)]) (N := ["_law_m", "_law_at", "_law_sums", "_law_inside", "_law_sizes", "_law_deeds", "_law_share", "_law_first", "_law_group", "_law_limit", "_law_below", "_law_start", "_law_above", "_law_one", "_law_other", "_law_extra"]) (sc := defScope sLgrown) (by decide +kernel)) (fun _ _ _ _ _ => (pg_name (i := 11) scLgrown.nd rfl (by first | exact Or.inl rfl | exact Or.inr rfl))) (fun _ _ _ _ _ => (pts_one (pt_cmpR op_gt (pe_call (okLcometo T) (hr.mono (by decide)) rfl T.gLcometo T.fLcometo.kp T.bLcometo .nil pass0 (pa_cons (pv 8) (pa_cons (pv 11) pa_nil))) (pe_op op_mul (pv 9) (pv 6)) (nomark _)))) (fun _ _ _ _ _ => (pv 11)))
      (C8.pss_cut (ps_if (PW.pt (pw_and (pt_cmpR (op_neD hr.units) (pv 8) (pe_tup pa_nil) (nomark _)) (pw_and (pt_cmpR (op_neNil (Nat.lt_of_le_of_lt (Nat.le_add_right _ _) hr.units)) (pv 10) (pe_lst pa_nil) (nomark _)) (pw_and1 (pt_cmpR (op_neNil (Nat.lt_of_le_of_lt (Nat.le_add_right _ _) hr.units)) (pv 12) (pe_lst pa_nil) (nomark _)))))) (pss_cons (ps_set (i := 13) scLgrown.nd rfl (by first | exact Or.inl rfl | exact Or.inr rfl) (pe_call hL hrL rfl T.gLgrown T.fLgrown.kp T.bLgrown .nil pass0 (pa_cons (pv 0) (pa_cons (pe_op op_add (pv 1) pe_int) (pa_cons (pe_call (okLgone T) (hr.mono (by decide)) rfl T.gLgone T.fLgone.kp T.bLgone .nil pass0 (pa_cons (pv 4) (pa_cons (pe_ix (r := rIxL K) ix_list (pv 5) (pv 1) (fun _ _ => rfl)) (pa_cons (pv 2) (pa_cons pe_bl pa_nil))))) (pa_cons (pv 10) pa_nil))))))
      (pss_cons (ps_set (i := 14) scLgrown.nd rfl (by first | exact Or.inl rfl | exact Or.inr rfl) (pe_call hL hrL rfl T.gLgrown T.fLgrown.kp T.bLgrown .nil pass0 (pa_cons (pv 0) (pa_cons (pe_op op_add (pv 1) pe_int) (pa_cons (pe_call (okLgone T) (hr.mono (by decide)) rfl T.gLgone T.fLgone.kp T.bLgone .nil pass0 (pa_cons (pv 4) (pa_cons (pe_ix (r := rIxL K) ix_list (pv 5) (pv 1) (fun _ _ => rfl)) (pa_cons (pv 2) (pa_cons pe_bl pa_nil))))) (pa_cons (pv 12) pa_nil))))))
      (pss_one (ps_ret (pe_make T.kTest (okTestInit T) (hr.mono (by decide)) rfl T.mTest T.bTestInit .nil pass0 (pa_cons (pv 1) (pa_cons (pv 8) (pa_cons (pv 9) (pa_cons (pv 13) (pa_cons (pv 14) pa_nil)))))))))) pss_nil)
      (pss_one (ps_set (i := 7) scLgrown.nd rfl (by first | exact Or.inl rfl | exact Or.inr rfl) (pe_ifExp (pt_cmpR (op_eqD hr.units) (pv 8) (pe_tup pa_nil) (nomark _)) (pe_cmpR op_ge (pv 9) pe_int (nomark _)) (pe_cmpR (op_neNil (Nat.lt_of_le_of_lt (Nat.le_add_right _ _) hr.units)) (pv 10) (pe_lst pa_nil) (nomark _))))))))) pss_nil)
      (pss_cons (ps_set (i := 2) scLgrown.nd rfl (by first | exact Or.inl rfl | exact Or.inr rfl) (pe_call (okLgone T) (hr.mono (by decide)) rfl T.gLgone T.fLgone.kp T.bLgone .nil pass0 (pa_cons (pv 4) (pa_cons (pe_ix (r := rIxL K) ix_list (pv 5) (pv 1) (fun _ _ => rfl)) (pa_cons (pv 2) (pa_cons (pv 7) pa_nil))))))
      (pss_one (ps_set (i := 1) scLgrown.nd rfl (by first | exact Or.inl rfl | exact Or.inr rfl) (pe_op op_add (pv 1) pe_int)))))))
      (pss_one (ps_ret (pe_make T.kLeaf (okLeafInit T) (hr.mono (by decide)) rfl T.mLeaf T.bLeafInit .nil pass0 (pa_cons (pe_lc (own := [("_law_group", 8), ("_law_extra", 15)]) (g := gTup K 2 (gCons (gName 8) (gCons (gName 15) gNil))) rfl scLgrown.nd (pi_list (pv 2)) (blkOk_by (own := [("_law_group", 8), ("_law_extra", 15)]) (N := ["_law_m", "_law_at", "_law_sums", "_law_inside", "_law_sizes", "_law_deeds", "_law_share", "_law_first", "_law_group", "_law_limit", "_law_below", "_law_start", "_law_above", "_law_one", "_law_other", "_law_extra"]) (sc := defScope sLgrown) (by decide +kernel)) (fun _ _ _ _ _ => (pg_tup rfl (pgs_cons (pg_name (i := 8) scLgrown.nd rfl (by first | exact Or.inl rfl | exact Or.inr rfl)) (pgs_cons (pg_name (i := 15) scLgrown.nd rfl (by first | exact Or.inl rfl | exact Or.inr rfl)) pgs_nil)))) (fun _ _ _ _ _ => pts_nil) (fun _ _ _ _ _ => (pe_make T.kSum (okSumInit T) (hr.mono (by decide)) rfl T.mSum T.bSumInit .nil pass0 (pa_cons (pv 8) (pa_cons (pv 15) pa_nil))))) pa_nil)))))), ?_⟩
    have tl := hA.len
    refine ⟨_, rfl, mt, _, rfl, SqT.of hm, rfl, _, _, rfl, _, _, rfl, _, _, rfl, rfl, ?_⟩
    refine ⟨fun k σ H' => ∃ (n' : Nat) (a' : Addr) (S' : List Sh) (v7 v8 v9 v10 v11 v12 v13 v14 v15 : Option V), σ = [some (.ref mt), some (.int n'), some (.ref a'), some (.ref i), some (.ref c), some (.ref f), some (.int p), v7, v8, v9, v10, v11, v12, v13, v14, v15] ∧ n ≤ n' ∧ n' ≤ ds.length ∧ k = ds.length - n' ∧
      SmsAt H' a' S' ∧ Shs caps S' ∧ GoodL caps.length S' ∧ (glen S' : Int) + 1 ≤ p ∧ Inside p S' pts ∧ grow caps n (ds.drop n) S = grow caps n' (ds.drop n') S' ∧ Same H H', ⟨_, n, a, S, none, none, none, none, none, none, none, none, none, rfl, Nat.le_refl _, nd, rfl, hS, hsh, hG, hp, hI, rfl, Same.refl _⟩, ?_⟩
    rintro k σ H0 ⟨n', a', S', v7, v8, v9, v10, v11, v12, v13, v14, v15, rfl, n1, n2, rfl, hS', hsh', hG', hp', hI', eq, sm⟩
    have hc0 := sm _ _ hc
    have hf0 := sm _ _ hf
    have hi0 := sm _ _ hi
    have hm0 := sm _ _ hm
    have hA0 := A2.mono (fun _ _ q => FactAt.same sm q) hA
    have hP0 := A2.mono (fun _ _ q => TupJ.same sm q) hP
    refine ⟨_, rfl, _, rfl, f, _, rfl, .inl (SqL.of hf0), _, _, rfl, rfl, _, rfl, ifD (fun lt => ?_) (fun ge => ?_)⟩
    · have lt : n' < ds.length := by omega
      have hd : ds[n']? = some ds[n'] := List.getElem?_eq_getElem lt
      have hdrop : ds.drop n' = ds[n'] :: ds.drop (n' + 1) := List.drop_eq_getElem_cons lt
      generalize ds[n'] = d at hd hdrop
      have okd := ok d (List.mem_of_getElem? hd)
      obtain ⟨v, at_, _, tv, rfl, ht⟩ := A2at hA0 hd
      have hF : FactAt H0 (.ref tv) d := ⟨tv, rfl, ht⟩
      have gl6 := hsh'.few
      have p2 : p < 2 ^ 62 := by have : ((2 : Int) ^ 62) > 1000 := by decide
                                 omega
      refine ⟨fun σ H' => ∃ (n2 : Nat) (a2 : Addr) (S2 : List Sh) (v7 v8 v9 v10 v11 v12 v13 v14 v15 : Option V), σ = [some (.ref mt), some (.int n2), some (.ref a2), some (.ref i), some (.ref c), some (.ref f), some (.int p), v7, v8, v9, v10, v11, v12, v13, v14, v15] ∧ n2 = n' + 1 ∧ SmsAt H' a2 S2 ∧ Shs caps S2 ∧ GoodL caps.length S2 ∧ (glen S2 : Int) + 1 ≤ p ∧ Inside p S2 pts ∧ grow caps n (ds.drop n) S = grow caps n2 (ds.drop n2) S2 ∧ Same H0 H', ?_, ?_⟩
      · rintro σ H' ⟨n2, a2, S2, w7, w8, w9, w10, w11, w12, w13, w14, w15, rfl, rfl, q1, q2, q3, q4, q5, q6, q7⟩
        exact ⟨ds.length - (n' + 1), by omega, n' + 1, a2, S2, w7, w8, w9, w10, w11, w12, w13, w14, w15, rfl, by omega, by omega, rfl, q1, q2, q3, q4, q5, q6, sm.trans q7⟩
      refine ⟨_, rfl, _, rfl, f, _, _, _, rfl, rfl, SqL.of hf0, at_, tv, _, _, _, rfl, rfl, SqT.of ht, rfl, rfl, _, rfl, ?_⟩
      cases ch : d.ischange with
      | true =>
        obtain ⟨x, b, rfl⟩ : ∃ x b, d = .change x b := by cases d <;> first | exact ⟨_, _, rfl⟩ | cases ch
        refine ifF (show (!decide (V.str "change" = V.str "change")) = false by decide +kernel) ?_
        refine ⟨_, rfl, _, rfl, _, rfl, f, _, _, _, rfl, rfl, SqL.of hf0, at_, _, rfl, _, rfl, c, a', .ref tv, caps, .change x b, S', true, rfl, hc0, hF, okd, hS', hsh', fun H1 q q0 hq1 s1 => ?_⟩
        refine ⟨_, rfl, _, _, rfl, rfl, ?_⟩
        refine ⟨n' + 1, q, (D.change x b).only caps S', _, _, _, _, _, _, _, _, _, rfl, rfl, hq1, hsh'.only okd, good_only hG' hsh'.len okd, ?_, inside_swap hsh'.len okd hI', ?_, s1⟩
        · have := few_only (l := S') hsh'.len okd
          omega
        · rw [eq, hdrop]
          rfl
      | false =>
        have tr : (!decide (V.str d.word = V.str "change")) = true := by
          cases d with
          | change x b => cases ch
          | pour x b => show (!decide (V.str "pour" = V.str "change")) = true; decide +kernel
          | put x b => show (!decide (V.str "put" = V.str "change")) = true; decide +kernel
          | draw x b => show (!decide (V.str "draw" = V.str "change")) = true; decide +kernel
        have LK := look hsh'.len okd hp' hI' ch
        have gsh : GoodG caps.length (d.share S').g := good_share hG' hsh'.len okd
        have gl : (d.share S').g.length ≤ 6 := D.share_len hsh' okd
        refine ifT tr ?_
        refine ⟨_, rfl, _, rfl, _, rfl, f, _, _, _, rfl, rfl, SqL.of hf0, at_, _, rfl, c, a', .ref tv, caps, d, S', rfl, hc0, hF, okd, hS', hsh', ch, fun H1 q g hq1 hg s1 => ?_⟩
        refine ⟨q, _, rfl, SqT.of hq1, rfl, _, _, rfl, _, _, rfl, rfl, ?_⟩
        have hi1 := s1 _ _ hi0
        have hP1 := A2.mono (fun _ _ q => TupJ.same s1 q) hP0
        refine ⟨_, rfl, i, rfl, ⟨_, SqL.of hi1⟩, fun D1 hD1 => ?_⟩
        refine lc_list (K := K) (a := i) (xs := us) (fun j H' => ∃ acc, H' D1 = some (.lst acc) ∧ A2 (TupJ H') acc ((pts.take j).filter fun st => decide (gsum st (d.share S').g < d.limit caps S' * p)) ∧ Same H1 H') ⟨[], upd_same, by simp [A2], same_new hD1⟩ (fun j H' _ ⟨_, _, _, e⟩ => SqL.of (e _ _ hi1)) ?_ ?_
        · rintro j y H' hj ⟨acc, g1, g2, g3⟩
          obtain ⟨st, hst, hy⟩ := hP1.get hj
          obtain ⟨t, rfl, y1⟩ := hy.same g3
          have jl : j < us.length := (List.getElem?_eq_some_iff.mp hj).1
          have sl := hlen st (List.mem_of_getElem? hst)
          have al : acc.length ≤ 1000 := by
            have := g2.len
            have := List.length_filter_le (fun st => decide (gsum st (d.share S').g < d.limit caps S' * p)) (pts.take j)
            rw [List.length_take] at this
            omega
          have tk : pts.take (j + 1) = pts.take j ++ [st] := by rw [List.take_add_one, hst]; rfl
          refine ⟨rfl, _, rfl, _, rfl, g, t, (d.share S').g, st, rfl, SqT.of (g3 _ _ hg), SqT.of y1, by rw [sl]; exact gsh, gl, fun H2 s2 => ?_⟩
          refine ⟨_, rfl, _, rfl, _, _, rfl, rfl, .inr ⟨by omega, by omega⟩, _, _, rfl, rfl, _, rfl, ifD (fun c1 => ?_) (fun c1 => ?_)⟩
          · refine ⟨_, rfl, acc, s2 _ _ g1, small1000' al, acc ++ [.ref t], upd_same, ?_, same_mut (g3.trans s2) hD1⟩
            have fD : Fr D1 H2 (upd H2 D1 (.lst (acc ++ [.ref t]))) := fr_mut (Fr.refl _ _)
            rw [tk, List.filter_append, List.filter_cons_of_pos (by simpa using c1), List.filter_nil]
            exact A2.app (A2.mono (fun _ _ q => (q.same s2).fr fD (s2 _ _ g1) bl_l) g2) ⟨TupJ.fr fD (s2 _ _ g1) bl_l ⟨t, rfl, s2 _ _ y1⟩, trivial⟩
          · refine ⟨acc, s2 _ _ g1, ?_, g3.trans s2⟩
            rw [tk, List.filter_append, List.filter_cons_of_neg (by simpa using c1), List.filter_nil, List.append_nil]
            exact A2.mono (fun _ _ q => q.same s2) g2
        rintro H2 ⟨bl, hb1, hb2, s2⟩
        rw [hP1.len, List.take_length] at hb2
        have hi2 := s2 _ _ hi1
        have hP2 := A2.mono (fun _ _ q => TupJ.same s2 q) hP1
        refine ⟨_, rfl, i, rfl, ⟨_, SqL.of hi2⟩, fun D2 hD2 => ?_⟩
        refine lc_list (K := K) (a := i) (xs := us) (fun j H' => ∃ acc, H' D2 = some (.lst acc) ∧ A2 (TupJ H') acc ((pts.take j).filter fun st => decide (d.limit caps S' * p < gsum st (d.share S').g)) ∧ Same H2 H') ⟨[], upd_same, by simp [A2], same_new hD2⟩ (fun j H' _ ⟨_, _, _, e⟩ => SqL.of (e _ _ hi2)) ?_ ?_
        · rintro j y H' hj ⟨acc, g1, g2, g3⟩
          obtain ⟨st, hst, hy⟩ := hP2.get hj
          obtain ⟨t, rfl, y1⟩ := hy.same g3
          have jl : j < us.length := (List.getElem?_eq_some_iff.mp hj).1
          have sl := hlen st (List.mem_of_getElem? hst)
          have al : acc.length ≤ 1000 := by
            have := g2.len
            have := List.length_filter_le (fun st => decide (d.limit caps S' * p < gsum st (d.share S').g)) (pts.take j)
            rw [List.length_take] at this
            omega
          have tk : pts.take (j + 1) = pts.take j ++ [st] := by rw [List.take_add_one, hst]; rfl
          refine ⟨rfl, _, rfl, _, rfl, g, t, (d.share S').g, st, rfl, SqT.of ((s2.trans g3) _ _ hg), SqT.of y1, by rw [sl]; exact gsh, gl, fun H3 s3 => ?_⟩
          refine ⟨_, rfl, _, rfl, _, _, rfl, rfl, .inr ⟨by omega, by omega⟩, _, _, rfl, rfl, _, rfl, ifD (fun c1 => ?_) (fun c1 => ?_)⟩
          · refine ⟨_, rfl, acc, s3 _ _ g1, small1000' al, acc ++ [.ref t], upd_same, ?_, same_mut (g3.trans s3) hD2⟩
            have fD : Fr D2 H3 (upd H3 D2 (.lst (acc ++ [.ref t]))) := fr_mut (Fr.refl _ _)
            rw [tk, List.filter_append, List.filter_cons_of_pos (by simpa using c1), List.filter_nil]
            exact A2.app (A2.mono (fun _ _ q => (q.same s3).fr fD (s3 _ _ g1) bl_l) g2) ⟨TupJ.fr fD (s3 _ _ g1) bl_l ⟨t, rfl, s3 _ _ y1⟩, trivial⟩
          · refine ⟨acc, s3 _ _ g1, ?_, g3.trans s3⟩
            rw [tk, List.filter_append, List.filter_cons_of_neg (by simpa using c1), List.filter_nil, List.append_nil]
            exact A2.mono (fun _ _ q => q.same s3) g2
        rintro H3 ⟨al, ha1, ha2, s3⟩
        rw [hP2.len, List.take_length] at ha2
        have s03 := (s1.trans s2).trans s3
        have gg3 := (s2.trans s3) _ _ hg
        have b3 := s3 _ _ hb1
        have hb3 := A2.mono (fun _ _ q => TupJ.same s3 q) hb2
        have eb := len_ne hb2
        have ea := len_ne ha2
        have bLen : bl.length ≤ 1000 := by
          have := hb2.len
          have := List.length_filter_le (fun st => decide (gsum st (d.share S').g < d.limit caps S' * p)) pts
          have := hP.len
          omega
        have aLen : al.length ≤ 1000 := by
          have := ha2.len
          have := List.length_filter_le (fun st => decide (d.limit caps S' * p < gsum st (d.share S').g)) pts
          have := hP.len
          omega
        have below : (d.share S').g ≠ [] → (bl.isEmpty = false ↔ (d.share S').low < d.limit caps S') := fun h => by
          rw [eb, fil_ex, ← LK.below h]
          simp
        have above : al.isEmpty = false ↔ d.limit caps S' < (d.share S').high := by
          rw [ea, fil_ex, ← LK.above]
          simp
        have only : ¬ ((d.share S').low < d.limit caps S' ∧ d.limit caps S' < (d.share S').high) → ∀ fb : Bool, (fb = true ↔ (if (d.share S').g = [] then 0 ≤ d.limit caps S' else bl.isEmpty = false)) → goneL caps d S' fb = d.only caps S' ∧ Inside p (d.only caps S') pts := fun no fb hfb => by
          have eo : d.only caps S' = if (d.share S').high ≤ d.limit caps S' then d.way1 caps S' else d.way2 caps S' := by
            cases d <;> first | rfl | cases ch
          have key : fb = true ↔ (d.share S').high ≤ d.limit caps S' := by
            rw [hfb]
            by_cases e : (d.share S').g = []
            · rw [if_pos e, (LK.non e).2]
            · rw [if_neg e, below e]
              have := LK.span e
              omega
          unfold goneL
          rw [eo, ch, if_neg Bool.false_ne_true]
          by_cases c1 : (d.share S').high ≤ d.limit caps S'
          · rw [if_pos (key.mpr c1), if_pos c1]
            exact ⟨rfl, LK.all1 c1⟩
          · rw [if_neg (fun z => c1 (key.mp z)), if_neg c1]
            refine ⟨rfl, LK.all2 ?_⟩
            by_cases e : (d.share S').g = []
            · have := LK.non e
              omega
            · have := LK.span e
              omega
        refine ⟨fun σ H' => ¬ ((d.share S').low < d.limit caps S' ∧ d.limit caps S' < (d.share S').high) ∧ (∃ w13 w14 : Option V, σ = [some (.ref mt), some (.int n'), some (.ref a'), some (.ref i), some (.ref c), some (.ref f), some (.int p), some (.bl true), some (.ref g), some (.int (d.limit caps S')), some (.ref D1), v11, some (.ref D2), w13, w14, v15]) ∧ Same H3 H', ?_, ?_⟩
        · refine ⟨_, rfl, (by show 0 ≤ sizeLine; decide), fun z hz => ?_⟩
          refine neTI (m := []) (SqT.of (same_new hz _ _ gg3)) (SqT.of upd_same) ⟨_, rfl, ?_⟩
          have sz := same_new (o := .tup ([] : List V)) hz
          by_cases e : (d.share S').g = []
          · refine ifF (by rw [e]; rfl) ⟨fun q => ?_, ⟨_, _, rfl⟩, sz⟩
            have := LK.non e
            omega
          refine ifT (by simpa using e) ?_
          have b4 := sz _ _ b3
          refine ⟨_, rfl, (by show 0 ≤ sizeLine; decide), fun z2 hz2 => ⟨D1, z2, _, rfl, rfl, same_new hz2 _ _ b4, upd_same, _, rfl, ?_⟩⟩
          have sz2 := sz.trans (same_new (o := .lst ([] : List V)) hz2)
          cases eB : bl.isEmpty with
          | true =>
            refine ifF rfl ⟨fun q => ?_, ⟨_, _, rfl⟩, sz2⟩
            have := (below e).mpr q.1
            rw [eB] at this
            cases this
          | false =>
            refine ifT rfl ?_
            have a5 := sz2 _ _ ha1
            refine ⟨_, rfl, (by show 0 ≤ sizeLine; decide), fun z3 hz3 => ⟨D2, z3, _, rfl, rfl, same_new hz3 _ _ a5, upd_same, _, rfl, ?_⟩⟩
            have sz3 := sz2.trans (same_new (o := .lst ([] : List V)) hz3)
            cases eA : al.isEmpty with
            | true =>
              refine ifF rfl ⟨fun q => ?_, ⟨_, _, rfl⟩, sz3⟩
              have := above.mpr q.2
              rw [eA] at this
              cases this
            | false =>
              refine ifT rfl ?_
              show _
              have k1 := (below e).mp eB
              have k2 := above.mp eA
              generalize upd _ z3 _ = H5 at sz3 ⊢
              have s05 := s03.trans sz3
              have chT : d.choice caps S' = true := by
                unfold D.choice
                rw [ch]
                simp [k1, k2]
              have eq2 : grow caps n (ds.drop n) S = .test n' (srtI (d.share S').g) (d.limit caps S') (grow caps (n' + 1) (ds.drop (n' + 1)) (d.way1 caps S')) (grow caps (n' + 1) (ds.drop (n' + 1)) (d.way2 caps S')) := by
                rw [eq, hdrop]
                show (if d.choice caps S' = true then _ else _) = _
                rw [chT]
                rfl
              have g1e : goneL caps d S' true = d.way1 caps S' := by unfold goneL; rw [ch]; rfl
              have g2e : goneL caps d S' false = d.way2 caps S' := by unfold goneL; rw [ch]; rfl
              have few1 := few_way1 (l := S') hsh'.len okd
              have few2 := few_way2 (l := S') hsh'.len okd
              refine ⟨_, rfl, _, rfl, _, _, rfl, rfl, _, rfl, _, rfl, _, rfl, f, _, _, _, rfl, rfl, SqL.of (s05 _ _ hf0), at_, _, rfl, c, a', .ref tv, caps, d, S', true, rfl, s05 _ _ hc0, FactAt.same s05 hF, okd, hS'.same s05, hsh', fun H6 q6 q60 hq6 s6 => ?_⟩
              have s06 := s05.trans s6
              rw [g1e] at hq6
              refine ⟨_, rfl, mt, c, f, q6, D1, n' + 1, p, caps, ts, bl, ds, d.way1 caps S', _, rfl, s06 _ _ hm0, s06 _ _ hc0, s06 _ _ hf0, A2.mono (fun _ _ q => FactAt.same s06 q) hA0, ok, d20, lt, hq6, hsh'.way1 okd, good_way1 hG' hsh'.len okd, by omega, p1, p100, (sz3.trans s6) _ _ b3, A2.mono (fun _ _ q => TupJ.same (sz3.trans s6) q) hb3, LK.one k1 k2, fun st h => hlen st (List.mem_filter.mp h).1, bLen, c6, by omega, fun H7 x1 hx1 s7 => ?_⟩
              have s07 := s06.trans s7
              refine ⟨_, rfl, _, rfl, _, _, rfl, rfl, _, rfl, _, rfl, _, rfl, f, _, _, _, rfl, rfl, SqL.of (s07 _ _ hf0), at_, _, rfl, c, a', .ref tv, caps, d, S', false, rfl, s07 _ _ hc0, FactAt.same s07 hF, okd, hS'.same s07, hsh', fun H8 q8 q80 hq8 s8 => ?_⟩
              have s08 := s07.trans s8
              have z38 := ((sz3.trans s6).trans s7).trans s8
              rw [g2e] at hq8
              refine ⟨_, rfl, mt, c, f, q8, D2, n' + 1, p, caps, ts, al, ds, d.way2 caps S', _, rfl, s08 _ _ hm0, s08 _ _ hc0, s08 _ _ hf0, A2.mono (fun _ _ q => FactAt.same s08 q) hA0, ok, d20, lt, hq8, hsh'.way2 okd, good_way2 hG' hsh'.len okd, by omega, p1, p100, z38 _ _ ha1, A2.mono (fun _ _ q => TupJ.same z38 q) ha2, LK.two k1 k2, fun st h => hlen st (List.mem_filter.mp h).1, aLen, c6, by omega, fun H9 x2 hx2 s9 => ?_⟩
              refine ⟨_, rfl, _, rfl, _, rfl, _, rfl, _, rfl, fun x dx hx hdx _ => mkTest rfl ((z38.trans s9) _ _ gg3) (Nat.le_trans gl (by decide)) (hx1.same (s8.trans s9)) hx2 hx hdx fun H10 h10 s10 => ?_⟩
              refine hq H10 _ ?_ ((sm.trans (s08.trans s9)).trans s10)
              rw [eq2]
              exact h10
        · rintro σ H4 ⟨no, ⟨w13, w14, rfl⟩, s4⟩
          have s04 := s03.trans s4
          have fin : ∀ (fb : Bool) (H5 : Hp), Same H4 H5 → (fb = true ↔ (if (d.share S').g = [] then 0 ≤ d.limit caps S' else bl.isEmpty = false)) → ∀ (w7 w8 w9 w10 w11 w12 w13 w14 w15 : Option V) (H6 : Hp) (q : Addr), SmsAt H6 q (goneL caps d S' fb) → Same H5 H6 →
              (∃ (n2 : Nat) (a2 : Addr) (S2 : List Sh) (v7 v8 v9 v10 v11 v12 v13 v14 v15 : Option V), [some (V.ref mt), some (V.int ((n' : Int) + 1)), some (V.ref q), some (V.ref i), some (V.ref c), some (V.ref f), some (V.int p), w7, w8, w9, w10, w11, w12, w13, w14, w15] = [some (.ref mt), some (.int n2), some (.ref a2), some (.ref i), some (.ref c), some (.ref f), some (.int p), v7, v8, v9, v10, v11, v12, v13, v14, v15] ∧ n2 = n' + 1 ∧ SmsAt H6 a2 S2 ∧ Shs caps S2 ∧ GoodL caps.length S2 ∧ (glen S2 : Int) + 1 ≤ p ∧ Inside p S2 pts ∧ grow caps n (ds.drop n) S = grow caps n2 (ds.drop n2) S2 ∧ Same H0 H6) := fun fb H5 s5 hfb w7 w8 w9 w10 w11 w12 w13 w14 w15 H6 q hq6 s6 => by
            obtain ⟨e1, e2⟩ := only no fb hfb
            rw [e1] at hq6
            refine ⟨n' + 1, q, d.only caps S', _, _, _, _, _, _, _, _, _, rfl, rfl, hq6, hsh'.only okd, good_only hG' hsh'.len okd, ?_, e2, ?_, (s04.trans s5).trans s6⟩
            · have := few_only (l := S') hsh'.len okd
              omega
            · rw [eq, hdrop]
              show (if d.choice caps S' = true then _ else _) = _
              rw [if_neg]
              unfold D.choice
              rw [ch]
              simpa using no
          refine ⟨_, rfl, (by show 0 ≤ sizeLine; decide), fun z hz => ?_⟩
          have sz := same_new (o := .tup ([] : List V)) hz
          refine eqTI (m := []) (SqT.of (sz _ _ (s4 _ _ gg3))) (SqT.of upd_same) ⟨_, rfl, ?_⟩
          by_cases e : (d.share S').g = []
          · refine ifT (by rw [e]; rfl) ?_
            refine ⟨_, rfl, _, _, rfl, rfl, ?_⟩
            have s5 := s04.trans sz
            refine ⟨_, rfl, _, rfl, _, rfl, f, _, _, _, rfl, rfl, SqL.of (s5 _ _ hf0), at_, _, rfl, _, rfl, c, a', .ref tv, caps, d, S', _, rfl, s5 _ _ hc0, FactAt.same s5 hF, okd, hS'.same s5, hsh', fun H6 q q0 hq6 s6 => ?_⟩
            refine ⟨_, rfl, _, _, rfl, rfl, ?_⟩
            exact fin _ _ sz (by rw [if_pos e]; exact decide_eq_true_iff) _ _ _ _ _ _ _ _ _ H6 q hq6 s6
          · refine ifF (by simpa using e) ?_
            refine ⟨_, rfl, (by show 0 ≤ sizeLine; decide), fun z2 hz2 => ⟨D1, z2, _, rfl, rfl, same_new hz2 _ _ (sz _ _ (s4 _ _ b3)), upd_same, ?_⟩⟩
            have sz2 := sz.trans (same_new (o := .lst ([] : List V)) hz2)
            have s5 := s04.trans sz2
            refine ⟨_, rfl, _, rfl, _, rfl, f, _, _, _, rfl, rfl, SqL.of (s5 _ _ hf0), at_, _, rfl, _, rfl, c, a', .ref tv, caps, d, S', _, rfl, s5 _ _ hc0, FactAt.same s5 hF, okd, hS'.same s5, hsh', fun H6 q q0 hq6 s6 => ?_⟩
            refine ⟨_, rfl, _, _, rfl, rfl, ?_⟩
            exact fin _ _ sz2 (by rw [if_neg e]; cases bl.isEmpty <;> decide) _ _ _ _ _ _ _ _ _ H6 q hq6 s6
    · have e : n' = ds.length := by omega
      subst e
      rw [List.drop_length] at eq
      obtain ⟨ws, ha', hA'⟩ := hS'
      have wl := hA'.len
      have gl6 := hsh'.few
      refine ⟨_, rfl, a', rfl, ⟨_, SqL.of ha'⟩, fun D hD => ?_⟩
      refine lc_list (K := K) (a := a') (xs := ws) (fun j H' => ∃ acc, H' D = some (.lst acc) ∧ A2 (SumAt T H') acc ((S'.map fun s => (srtI s.g, s.more)).take j) ∧ Same H0 H') ⟨[], upd_same, by simp [A2], same_new hD⟩ (fun j H' _ ⟨_, _, _, e⟩ => SqL.of (e _ _ ha')) ?_ ?_
      · rintro j y H' hj ⟨acc, g1, g2, g3⟩
        obtain ⟨s, hs, hy⟩ := hA'.get hj
        have lt : j < S'.length := (List.getElem?_eq_some_iff.mp hs).1
        obtain ⟨t, g, rfl, y1, y2⟩ := hy.same g3
        have sl : s.g.length ≤ 6 := by
          have := glen_at (l := S') lt
          rw [atS_of hs] at this
          omega
        refine ⟨t, _, rfl, SqT.of y1, rfl, _, _, rfl, _, _, rfl, rfl, rfl, _, rfl, _, rfl, fun x dx hx hdx _ => mkSum y2 (by omega) hx hdx fun H4 h4 s4 => ?_⟩
        have fD : Fr D H4 (upd H4 D (.lst (acc ++ [.ref x]))) := fr_mut (Fr.refl _ _)
        have al : acc.length ≤ 20 := by
          have := g2.len
          have := hsh'.len
          rw [List.length_take] at *
          omega
        refine ⟨acc, s4 _ _ g1, small1000 (by omega), acc ++ [.ref x], upd_same, ?_, same_mut (g3.trans s4) hD⟩
        rw [List.take_add_one, List.getElem?_map, hs]
        exact A2.app (A2.mono (fun _ _ q => (q.same s4).fr fD (s4 _ _ g1) bl_l) g2) ⟨h4.fr fD (s4 _ _ g1) bl_l, trivial⟩
      · rintro H' ⟨acc, g1, g2, g3⟩
        rw [List.take_of_length_le (by rw [List.length_map, wl]; exact Nat.le_refl _)] at g2
        refine fun x dx hx hdx _ => mkLeaf g1 g2 hx hdx fun H4 h4 s4 => ?_
        refine hq H4 _ ?_ ((sm.trans g3).trans s4)
        rw [eq]
        exact h4
theorem okLg (T : Tx K mg) : ∀ m : Nat, LgOk P w K mg base T m
  | 0 => noLg T
  | m + 1 => okLgs T (okLg T m)
end
end Kp

namespace Kp
open PySem PySem.Spec PyProof.Rows L2 KpR
mutual
theorem dp_same {K : PySem.W.Frag} {H H' : Hp} (e : Same H H') : ∀ {v : V} {d : PyData}, Dp K H v d → Dp K H' v d
  | _, _, .non => .non
  | _, _, .bl b => .bl b
  | _, _, .int i => .int i
  | _, _, .str x => .str x
  | _, _, .lst h k => .lst (e.seq h) (dpAll_same e k)
  | _, _, .tup h k => .tup (sameT e h) (dpAll_same e k)
theorem dpAll_same {K : PySem.W.Frag} {H H' : Hp} (e : Same H H') : ∀ {vs : List V} {ds : List PyData}, DpAll K H vs ds → DpAll K H' vs ds
  | _, _, .nil => .nil
  | _, _, .cons h k => .cons (dp_same e h) (dpAll_same e k)
end
/-- what a tree tells -/
def pdS (q : List Int × Int) : PyData := .tuple [.tuple (pdInts q.1), .int q.2]
def pdU : Tr → PyData
  | .leaf ss => .list (ss.map pdS)
  | .test d g l a b => .tuple [.int d, .tuple (pdInts g), .int l, pdU a, pdU b]
theorem eqvS (x y : List Int × Int) : (pdS x).eqv (pdS y) = decide (x = y) := by
  obtain ⟨g, n⟩ := x
  obtain ⟨h, m⟩ := y
  simp only [pdS, PyData.eqv, PyData.eqvAll, eqvInts]
  by_cases e : g = h <;> by_cases f : n = m <;> simp [e, f]
theorem eqvU : ∀ t u : Tr, (pdU t).eqv (pdU u) = decide (t = u)
  | .leaf ss, .leaf tt => by
    simp only [pdU, PyData.eqv, eqv_map eqvS]
    simp
  | .leaf ss, .test d g l a b => by
    simp [pdU, PyData.eqv]
  | .test d g l a b, .leaf ss => by
    simp [pdU, PyData.eqv]
  | .test d g l a b, .test d' g' l' a' b' => by
    simp only [pdU, PyData.eqv, PyData.eqvAll, eqvInts, eqvU a a', eqvU b b']
    by_cases e1 : d = d' <;> by_cases e2 : g = g' <;> by_cases e3 : l = l' <;> by_cases e4 : a = a' <;> by_cases e5 : b = b' <;> simp [e1, e2, e3, e4, e5, Int.ofNat_inj]
theorem flatS {q : List Int × Int} : Flat 2 (pdS q) := by
  refine ⟨?_, ?_⟩
  · simp only [pdS, PyData.canLay0, PyData.canLayAll0, Bool.and_true, Bool.true_and]
    simpa only [PyData.canLay0] using (flatT q.1).lay
  · have := (flatT q.1).dep
    simp only [pdS, PyData.depth, PyData.depthAll] at this ⊢
    omega
theorem flatU : ∀ {t : Tr}, Flat (depthT t + 3) (pdU t)
  | .leaf ss => (Flat.list (n := 2) fun q _ => flatS)
  | .test d g l a b => by
    have fa := flatU (t := a)
    have fb := flatU (t := b)
    have fg := flatT g
    refine ⟨?_, ?_⟩
    · have h := fg.lay
      simp only [PyData.canLay0] at h
      simp only [pdU, PyData.canLay0, PyData.canLayAll0, fa.lay, fb.lay, h, Bool.and_true]
    · have h1 := fa.dep
      have h2 := fb.dep
      have h3 := fg.dep
      simp only [pdU, PyData.depth, PyData.depthAll] at h3 ⊢
      show _ ≤ max (depthT a) (depthT b) + 1 + 3
      omega
/-- a leaf's sum, told -/
def TsAt (H : Hp) (v : V) (q : List Int × Int) : Prop := ∃ a t, v = .ref a ∧ H a = some (.tup [.ref t, .int q.2]) ∧ H t = some (.tup (vi q.1))
theorem TsAt.same {H H' : Hp} {v : V} {q : List Int × Int} (e : Same H H') (h : TsAt H v q) : TsAt H' v q := by
  obtain ⟨a, t, rfl, h1, h2⟩ := h
  exact ⟨a, t, rfl, e _ _ h1, e _ _ h2⟩
theorem TsAt.fr {w : Addr} {H H' : Hp} {u : HO} {v : V} {q : List Int × Int} (e : Fr w H H') (hw : H w = some u) (hb : Blank u) (h : TsAt H v q) : TsAt H' v q := by
  obtain ⟨a, t, rfl, h1, h2⟩ := h
  exact ⟨a, t, rfl, fr_no e hw hb h1 nbT, fr_no e hw hb h2 nbT⟩
theorem TsAt.dp {K : PySem.W.Frag} {H : Hp} {v : V} {q : List Int × Int} (h : TsAt H v q) : Dp K H v (pdS q) := by
  obtain ⟨a, t, rfl, h1, h2⟩ := h
  exact .tup (SqT.of h1) (.cons (.tup (SqT.of h2) (dpInts _)) (.cons (.int _) .nil))
section
variable {K : PySem.W.Frag} {mg : Str → Option Value}
def spLtold (T : Tx K mg) (m : Nat) : Sp := fun vs H Q _ => ∃ (v : V) (t : Tr) (n : Nat), vs = [v] ∧ TrAt T H v t ∧ depthT t < m ∧ m ≤ 21 ∧ okT n t ∧ ∀ (H' : Hp) (u : V), Dp K H' u (pdU t) → Same H H' → Q u H'
end
section
variable {P : Program} {w : World} {K : PySem.W.Frag} {mg : Str → Option Value} {base : Heap}
abbrev LtOk (P : Program) (w : World) (K : PySem.W.Frag) (mg : Str → Option Value) (base : Heap) (T : Tx K mg) (m : Nat) : Prop := FnOk P w K mg base CX0 (m + 1) T.aLtold T.dLtold ["_law_tree"] (spLtold T m)
theorem noLt (T : Tx K mg) : LtOk P w K mg base T 0 := by
  refine T.fLtold.ok scLtold (fun vs H Q E h => ?_) (fun cdv A outer s H vs Q E hr0 h => ?_)
  · obtain ⟨v, t, n, rfl, _⟩ := h
    rfl
  · obtain ⟨v, t, n, rfl, _, hd, _⟩ := h
    exact absurd hd (Nat.not_lt_zero _)
theorem okLts (T : Tx K mg) {m : Nat} (hN : LtOk P w K mg base T m) : LtOk P w K mg base T (m + 1) := by
  refine T.fLtold.ok scLtold (fun vs H Q E h => ?_) (fun cdv A outer s H vs Q E hr0 h => ?_)
  · obtain ⟨v, t, n, rfl, _⟩ := h
    rfl
  · obtain ⟨v, t, n, rfl, hT, hd, m21, ok, hq⟩ := h
    have hrN : Room (m + 1) _ := hr0
    have hr : Room 1 _ := hr0.mono (by omega)
    refine ⟨_, (pss_cons (ps_if (pt_val (pe_callB call_isi rfl T.nisinstance (by decide +kernel) (pa_cons (pv 0) (pa_cons (pe_glob (v := .ref T.cLeaf) rfl T.mLeaf rfl) pa_nil)))) (pss_one (ps_ret (pe_lc (own := [("_law_one", 1)]) rfl scLtold.nd (pi_tup (pe_fld (pv 0) rfl)) (blkOk_by (own := [("_law_one", 1)]) (N := ["_law_tree", "_law_one"]) (sc := defScope sLtold) (by decide +kernel)) (fun _ _ _ _ _ => (pg_name (i := 1) scLtold.nd rfl (by first | exact Or.inl rfl | exact Or.inr rfl))) (fun _ _ _ _ _ => pts_nil) (fun _ _ _ _ _ => (pe_tup (pa_cons (show PE _ _ (tFld K _ "group") from (pe_fld (pv 1) rfl)) (pa_cons (show PE _ _ (tFld K _ "more") from (pe_fld (pv 1) rfl)) pa_nil))))))) pss_nil)
      (pss_one (ps_ret (pe_tup (pa_cons (pe_fld (pv 0) rfl) (pa_cons (pe_fld (pv 0) rfl) (pa_cons (pe_fld (pv 0) rfl) (pa_cons (pe_call hN hrN rfl T.gLtold T.fLtold.kp T.bLtold .nil pass0 (pa_cons (pe_fld (pv 0) rfl) pa_nil)) (pa_cons (pe_call hN hrN rfl T.gLtold T.fLtold.kp T.bLtold .nil pass0 (pa_cons (pe_fld (pv 0) rfl) pa_nil)) pa_nil))))))))), ?_⟩
    cases t with
    | leaf ss =>
      obtain ⟨p, dx, t, ws, rfl, h1, h2, h3⟩ := hT
      have ty : TyX K H (.ref p) (.ref T.cLeaf) := .base (.ins h1 T.lLeaf T.yLeaf.ha T.yLeaf.hn T.yLeaf.ht T.yLeaf.hm)
      refine ⟨_, rfl, .ref p, .ref T.cLeaf, _, _, _, rfl, .own _, ty, T.iLeaf_Leaf, _, rfl, ifT rfl ?_⟩
      refine ⟨_, rfl, p, _, dx, _, _, rfl, h1, T.lLeaf, T.nLeaf_sums, lk1, t, rfl, ⟨_, SqT.of h2⟩, fun D hD => ?_⟩
      refine lc_tup (K := K) (a := t) (xs := ws) (fun i H' => ∃ us, H' D = some (.lst us) ∧ A2 (TsAt H') us (ss.take i) ∧ Same H H') ⟨[], upd_same, by simp [A2], same_new hD⟩ (fun i H' _ ⟨_, _, _, e⟩ => sameT e (SqT.of h2)) ?_ ?_
      · rintro i y H' hi ⟨us, g1, g2, sm⟩
        obtain ⟨q, hq0, hy⟩ := h3.get hi
        obtain ⟨z, zx, zt, rfl, z1, z2⟩ := hy.same sm
        have ul := g2.len
        rw [List.length_take] at ul
        have s6 : ss.length ≤ 6 := ok.1
        refine ⟨rfl, _, rfl, z, _, zx, _, _, rfl, z1, T.lSum, T.nSum_group, lk1, _, rfl, z, _, zx, _, _, rfl, z1, T.lSum, T.nSum_more, lk2 (by decide +kernel), (by show 2 ≤ sizeLine; decide), fun tp htp => ?_⟩
        have s1 := same_new (o := .tup [V.ref zt, V.int q.2]) htp
        have g3 := s1 _ _ g1
        have r1 : TsAt (upd H' tp (.tup [V.ref zt, V.int q.2])) (.ref tp) q := ⟨tp, zt, rfl, upd_same, s1 _ _ z2⟩
        refine ⟨us, g3, small1000 (by omega), us ++ [.ref tp], upd_same, ?_, same_mut (sm.trans s1) hD⟩
        have f3 : Fr D (upd H' tp (.tup [V.ref zt, V.int q.2])) (upd (upd H' tp (.tup [V.ref zt, V.int q.2])) D (.lst (us ++ [.ref tp]))) := fr_mut (Fr.refl _ _)
        rw [List.take_add_one, hq0]
        exact A2.app (A2.mono (fun _ _ h => (h.same s1).fr f3 g3 bl_l) g2) ⟨r1.fr f3 g3 bl_l, trivial⟩
      · rintro H' ⟨us, g1, g2, sm⟩
        rw [h3.len, List.take_length] at g2
        exact hq H' (.ref D) (.lst (SqL.of g1) (dp_map (fun _ _ h => TsAt.dp h) g2)) sm
    | test d g l t1 t2 =>
      have hd : max (depthT t1) (depthT t2) + 1 < m + 1 := hd
      have d1 : depthT t1 < m := by omega
      have d2 : depthT t2 < m := by omega
      obtain ⟨o1, o2, o3, o4⟩ := ok
      obtain ⟨p, dx, t, x, y, rfl, h1, h2, h3, h4⟩ := hT
      have ty : TyX K H (.ref p) (.ref T.cTest) := .base (.ins h1 T.lTest T.yTest.ha T.yTest.hn T.yTest.ht T.yTest.hm)
      refine ⟨_, rfl, .ref p, .ref T.cLeaf, _, _, _, rfl, .own _, ty, T.iTest_Leaf, _, rfl, ifF rfl ?_⟩
      refine ⟨_, rfl, p, _, dx, _, _, rfl, h1, T.lTest, T.nTest_deed, lk1, _, rfl, p, _, dx, _, _, rfl, h1, T.lTest, T.nTest_group, lk2 (by decide +kernel), ?_⟩
      refine ⟨_, rfl, p, _, dx, _, _, rfl, h1, T.lTest, T.nTest_limit, lk3 (by decide +kernel) (by decide +kernel), ?_⟩
      refine ⟨_, rfl, p, _, dx, _, _, rfl, h1, T.lTest, T.nTest_first, lk4 (by decide +kernel) (by decide +kernel) (by decide +kernel), x, t1, n, rfl, h3, d1, by omega, o3, fun H1 u1 p1 s1 => ?_⟩
      refine ⟨_, rfl, p, _, dx, _, _, rfl, s1 _ _ h1, T.lTest, T.nTest_second, lk5 (by decide +kernel) (by decide +kernel) (by decide +kernel) (by decide +kernel), y, t2, n, rfl, h4.same s1, d2, by omega, o4, fun H2 u2 p2 s2 => ?_⟩
      refine ⟨(by show 5 ≤ sizeLine; decide), fun tp htp => ?_⟩
      have s3 := same_new (o := .tup [V.int d, V.ref t, V.int l, u1, u2]) htp
      have s13 := (s1.trans s2).trans s3
      exact hq _ (.ref tp) (.tup (SqT.of upd_same) (.cons (.int _) (.cons (.tup (SqT.of (s13 _ _ h2)) (dpInts _)) (.cons (.int _) (.cons (dp_same (s2.trans s3) p1) (.cons (dp_same s3 p2) .nil)))))) s13
theorem okLt (T : Tx K mg) : ∀ m : Nat, LtOk P w K mg base T m
  | 0 => noLt T
  | m + 1 => okLts T (okLt T m)
end
end Kp

namespace Kp
open PySem PySem.Spec PyProof.Rows L2 KpR
theorem same_fr {s : Addr} {H H1 H2 : Hp} (sm : Same H H1) (f : Fr s H1 H2) (h0 : H s = none) : Same H H2 := fun b o e => f b o (ne_of_none e h0) (sm b o e)
theorem ok1_ok2 {caps : List Int} {d : D} (h : d.ok1 caps) (h2 : MidN 2 caps) : d.ok caps := by
  have up : ∀ a : Nat, a < caps.length → at0 caps a ≤ 2 := fun a ha => (h2 _ (at0_mem ha)).2
  cases d with
  | pour a b => exact h
  | put a k => exact ⟨h.1, h.2.1, by have := h.2.2; have := up a h.1; omega⟩
  | draw a k => exact ⟨h.1, h.2.1, by have := h.2.2; have := up a h.1; omega⟩
  | change a b => exact h
theorem at_six {d : Nat} (h : d < 2) : ∃ m : Int, atI [V.int 6, V.int 4] (2 + (d : Int) - 2) = some (.int m) ∧ 1 ≤ m ∧ m ≤ 6 ∧ (d = 1 → m ≤ 4) := by
  have : d = 0 ∨ d = 1 := by omega
  rcases this with rfl | rfl
  · exact ⟨6, rfl, by decide, by decide, fun h => by omega⟩
  · exact ⟨4, rfl, by decide, by decide, fun _ => by decide⟩
def gB (caps : List Int) (p : Int) (st : List Int) : Bool := decide (∀ i, i < caps.length → 1 ≤ at0 st i ∧ at0 st i ≤ at0 caps i * p - 1)
theorem pow24 {n : Nat} (h : n ≤ 4) : 2 ^ n ≤ 24 := by
  have : 2 ^ n ≤ 2 ^ 4 := Nat.pow_le_pow_right (by decide) h
  omega
def spLaw (K : PySem.W.Frag) : Sp := fun vs H Q _ => ∃ (a : Addr) (ns : List Int), vs = [.ref a] ∧ SqL K H a (ns.map V.int) ∧ ns.length ≤ 63 ∧ ∀ H', Q (.bl true) H'
section
variable {K : PySem.W.Frag} {mg : Str → Option Value}
def AhAt (T : Tx K mg) (H : Hp) (v : V) (t : Tr) : Prop := TrAt T H v t ∧ depthT t ≤ 6 ∧ ∃ n, okT n t
theorem AhAt.same {T : Tx K mg} {H H' : Hp} {v : V} {t : Tr} (e : Same H H') (h : AhAt T H v t) : AhAt T H' v t := ⟨h.1.same e, h.2⟩
end
section
variable {P : Program} {w : World} {K : PySem.W.Frag} {mg : Str → Option Value} {base : Heap}
theorem oklaw (T : Tx K mg) : FnOk P w K mg base CX0 64 T.alaw T.dlaw ["_law_script"] (spLaw K) := by
  refine T.flaw.ok sclaw (fun vs H Q E h => ?_) (fun cdv A outer s H vs Q E hr h => ?_)
  · obtain ⟨a, ns, rfl, _⟩ := h
    rfl
  · obtain ⟨a, ns, rfl, hS, hlen, hq⟩ := h
    have hL := okLg (P := P) (w := w) (base := base) T 21
    have hrL : Room (21 + 10) _ := hr.mono (by decide)
    have hN := okLt (P := P) (w := w) (base := base) T 21
    have hrN : Room (21 + 1) _ := hr.mono (by decide)
    refine ⟨_, (pss_cons (ps_set (i := 1) sclaw.nd rfl (by first | exact Or.inl rfl | exact Or.inr rfl) (pe_lst pa_nil))
      (pss_cons (ps_for PassesOwn.never rfl (pi_list (pe_slice sl_list (pe_op op_catR (pv 0) (pe_lst (pa_cons pe_int pa_nil))) po_none (po_some pe_int))) (pg_name (i := 2) sclaw.nd rfl (by first | exact Or.inl rfl | exact Or.inr rfl)) (pss_cons (ps_set (i := 3) sclaw.nd rfl (by first | exact Or.inl rfl | exact Or.inr rfl) (pe_call (okLstate T) (hr.mono (by decide)) rfl T.gLstate T.fLstate.kp T.bLstate .nil pass0 (pa_cons (pv 2) pa_nil)))
      (pss_cons (ps_set (i := 4) sclaw.nd rfl (by first | exact Or.inl rfl | exact Or.inr rfl) (pe_op op_add pe_int (pe_call (okLdigit T) (hr.mono (by decide)) rfl T.gLdigit T.fLdigit.kp T.bLdigit .nil pass0 (pa_cons (pv 3) (pa_cons pe_int pa_nil)))))
      (pss_cons (ps_asg (pe_call (okLhouse T) (hr.mono (by decide)) rfl T.gLhouse T.fLhouse.kp T.bLhouse .nil pass0 (pa_cons (pv 3) (pa_cons (pv 4) (pa_cons pe_int (pa_cons (pe_op op_add pe_int (pe_call (okLdigit T) (hr.mono (by decide)) rfl T.gLdigit T.fLdigit.kp T.bLdigit .nil pass0 (pa_cons (pv 3) (pa_cons (pe_ix (r := rIxL K) ix_list (pe_lst (pa_cons pe_int (pa_cons pe_int pa_nil))) (pe_op op_sub (pv 4) pe_int) (fun _ _ => rfl)) pa_nil)))) pa_nil))))) (pg_tup rfl (pgs_cons (pg_name (i := 5) sclaw.nd rfl (by first | exact Or.inl rfl | exact Or.inr rfl)) (pgs_cons (pg_name (i := 6) sclaw.nd rfl (by first | exact Or.inl rfl | exact Or.inr rfl)) pgs_nil))))
      (pss_cons (ps_set (i := 7) sclaw.nd rfl (by first | exact Or.inl rfl | exact Or.inr rfl) (pe_op op_add (pv 4) pe_int))
      (pss_cons (ps_set (i := 8) sclaw.nd rfl (by first | exact Or.inl rfl | exact Or.inr rfl) (pe_lst pa_nil))
      (pss_cons (ps_for PassesOwn.never rfl (pi_list (pe_call (okLstarts T) (hr.mono (by decide)) rfl T.gLstarts T.fLstarts.kp T.bLstarts .nil pass0 (pa_cons (pv 5) (pa_cons (pv 7) pa_nil)))) (pg_name (i := 9) sclaw.nd rfl (by first | exact Or.inl rfl | exact Or.inr rfl)) (pss_cons (ps_setLc (i := 10) (own := [("_law_k", 11)]) rfl sclaw.nd rfl rfl (sw_true rfl rfl rfl (by decide +kernel)) (pi_range1 rfl T.nrange (pa_cons (pv 4) pa_nil)) (blkOk_by (own := [("_law_k", 11)]) (N := ["_law_script", "_law_ahead", "_law_number", "_law_s", "_law_jars", "_law_sizes", "_law_deeds", "_law_share", "_law_inside", "_law_start", "_law_brims", "_law_k", "_law_begun", "_law_jar", "_law_due", "_law_row_here", "_law_tree", "_law_as_told"]) (sc := defScope slaw) (by decide +kernel)) (fun _ _ _ _ _ => (pg_name (i := 11) sclaw.nd rfl (by first | exact Or.inl rfl | exact Or.inr rfl))) (fun _ _ _ _ _ => (pts_one (pt_cmpR op_eq (pe_ix (r := rIxT K) ix_tup (pv 9) (pv 11) (fun _ _ => rfl)) (pe_op op_mul (pe_ix (r := rIxL K) ix_list (pv 5) (pv 11) (fun _ _ => rfl)) (pv 7)) (nomark _)))) (fun _ _ _ _ _ => (pv 11)))
      (pss_one (ps_if (PW.pt (pw_and (pt_cmpR op_lt pe_int (pe_callB (cr_minT rfl) rfl T.nmin (by decide +kernel) (pa_cons (pv 9) pa_nil)) (nomark _)) (pw_and1 (pt_cmpR (op_eqNil (Nat.lt_of_le_of_lt (Nat.le_add_right _ _) hr.units)) (pv 10) (pe_lst pa_nil) (nomark _))))) (pss_one (ps_expr (pe_bm PySem.F.plainAttrs_list PySem.F.slot_list_append PySem.F.type_list_append mt_append (pv 8) (pa_cons (pv 9) pa_nil)))) pss_nil))))
      (pss_cons (ps_setLc (i := 12) (own := [("_law_jar", 13)]) rfl sclaw.nd rfl rfl (sw_true rfl rfl rfl (by decide +kernel)) (pi_range1 rfl T.nrange (pa_cons (pv 4) pa_nil)) (blkOk_by (own := [("_law_jar", 13)]) (N := ["_law_script", "_law_ahead", "_law_number", "_law_s", "_law_jars", "_law_sizes", "_law_deeds", "_law_share", "_law_inside", "_law_start", "_law_brims", "_law_k", "_law_begun", "_law_jar", "_law_due", "_law_row_here", "_law_tree", "_law_as_told"]) (sc := defScope slaw) (by decide +kernel)) (fun _ _ _ _ _ => (pg_name (i := 13) sclaw.nd rfl (by first | exact Or.inl rfl | exact Or.inr rfl))) (fun _ _ _ _ _ => pts_nil) (fun _ _ _ _ _ => (pe_tup (pa_cons (pe_tup (pa_cons (pv 13) pa_nil)) (pa_cons pe_int pa_nil)))))
      (pss_cons (ps_set (i := 14) sclaw.nd rfl (by first | exact Or.inl rfl | exact Or.inr rfl) (pe_call hL hrL rfl T.gLgrown T.fLgrown.kp T.bLgrown .nil pass0 (pa_cons (pe_tup (pa_cons (pv 5) (pa_cons (pv 6) (pa_cons (pv 7) pa_nil)))) (pa_cons pe_int (pa_cons (pv 12) (pa_cons (pv 8) pa_nil))))))
      (pss_cons (ps_set (i := 15) sclaw.nd rfl (by first | exact Or.inl rfl | exact Or.inr rfl) (pe_call (okLrow T) (hr.mono (by decide)) rfl T.gLrow T.fLrow.kp T.bLrow .nil pass0 (pa_cons (pv 5) (pa_cons (pv 6) pa_nil))))
      (pss_cons (ps_if (PW.pt (pw_or (pt_cmpR (opNeTree T (hr.mono (by decide))) (pe_call (oktreeof T) (hr.mono (by decide)) rfl T.gtreeof T.ftreeof.kp T.btreeof .nil passF (pa_cons (pv 15) pa_nil)) (pv 14) (nomark _)) (pw_or (pt_not (pt_val (pe_callB call_isi rfl T.nisinstance (by decide +kernel) (pa_cons (pv 14) (pa_cons (pe_glob (v := .ref T.cTree) rfl T.mTree rfl) pa_nil))))) (pw_or1 (pt_cmpR (opNeTree T (hr.mono (by decide))) (pe_call (oktreeof T) (hr.mono (by decide)) rfl T.gtreeof T.ftreeof.kp T.btreeof .nil passF (pa_cons (pe_call (okLrow T) (hr.mono (by decide)) rfl T.gLrow T.fLrow.kp T.bLrow .nil pass0 (pa_cons (pv 5) (pa_cons (pv 6) pa_nil))) pa_nil)) (pv 14) (nomark _)))))) (pss_one (ps_ret pe_bl)) pss_nil)
      (pss_cons (ps_for PassesOwn.never rfl (pi_list (pv 1)) (pg_name (i := 16) sclaw.nd rfl (by first | exact Or.inl rfl | exact Or.inr rfl)) (pss_cons (ps_set (i := 17) sclaw.nd rfl (by first | exact Or.inl rfl | exact Or.inr rfl) (pe_cmpR (op_eqD hr.units) (pe_call hN hrN rfl T.gLtold T.fLtold.kp T.bLtold .nil pass0 (pa_cons (pv 16) pa_nil)) (pe_call hN hrN rfl T.gLtold T.fLtold.kp T.bLtold .nil pass0 (pa_cons (pv 14) pa_nil)) (nomark _)))
      (pss_one (ps_if (pt_cmpR op_ne (pe_cmpR (opEqTree T (hr.mono (by decide))) (pv 16) (pv 14) (nomark _)) (pv 17) (nomark _)) (pss_one (ps_ret pe_bl)) pss_nil))))
      (pss_one (ps_expr (pe_bm PySem.F.plainAttrs_list PySem.F.slot_list_append PySem.F.type_list_append mt_append (pv 1) (pa_cons (pv 14) pa_nil))))))))))))))))
      (pss_one (ps_ret pe_bl)))), ?_⟩
    refine ⟨(by show 0 ≤ sizeLine; decide), fun ah hah => ?_⟩
    have s0 := same_new (o := .lst ([] : List V)) hah
    refine ⟨_, rfl, (by show 1 ≤ sizeLine; decide), fun z hz => ?_⟩
    have s1 := s0.trans (same_new (o := .lst [V.int 0]) hz)
    refine ⟨a, z, _, _, rfl, rfl, s1.seq hS, SqL.of upd_same, ?_, fun q hq0 => ?_⟩
    · rw [List.length_map]
      exact Nat.le_trans (by simp; omega : ns.length + [V.int 0].length ≤ 100) (by decide)
    refine ⟨_, rfl, q, _, rfl, SqL.of upd_same, fun l hl => ?_⟩
    refine ⟨l, rfl, ⟨_, SqL.of upd_same⟩, ?_⟩
    have allI : ∀ y ∈ cutV (ns.map V.int ++ [V.int 0]) none (some 2), ∃ n, y = V.int n := fun y hy => by
      unfold cutV at hy
      rcases List.mem_append.mp (List.mem_of_mem_drop (List.mem_of_mem_take hy)) with k | k
      · obtain ⟨n, _, e⟩ := List.mem_map.mp k
        exact ⟨n, e.symm⟩
      · exact ⟨0, by simpa using k⟩
    have len2 : (cutV (ns.map V.int ++ [V.int 0]) none (some 2)).length ≤ 2 := by
      rw [show (2 : Int) = ((2 : Nat) : Int) from rfl, cut_takeT, List.length_take]
      omega
    generalize hxs : cutV (ns.map V.int ++ [V.int 0]) none (some 2) = xs at *
    have gah := ((same_new (o := .lst [V.int 0]) hz).trans ((same_new (o := .lst (ns.map V.int ++ [V.int 0])) hq0).trans (same_new (o := .lst xs) hl))) _ _ (show (upd H ah (.lst [])) ah = some (.lst []) from upd_same)
    have nal : l ≠ ah := fun e => by
      have := ((same_new (o := .lst [V.int 0]) hz).trans (same_new (o := .lst (ns.map V.int ++ [V.int 0])) hq0)) _ _ (show (upd H ah (.lst [])) ah = some (.lst []) from upd_same)
      rw [e] at hl
      rw [hl] at this
      cases this
    generalize hHl : upd (upd (upd (upd H ah (.lst [])) z (.lst [V.int 0])) q (.lst (ns.map V.int ++ [V.int 0]))) l (.lst xs) = Hl at *
    have gl : Hl l = some (.lst xs) := by rw [← hHl]; exact upd_same
    refine for_list (K := K) (a := l) (xs := xs) (fun i σ H' => ∃ (v2 v3 v4 v5 v6 v7 v8 v9 v10 v11 v12 v13 v14 v15 v16 v17 : Option V) (us : List V) (trs : List Tr), σ = [some (.ref a), some (.ref ah), v2, v3, v4, v5, v6, v7, v8, v9, v10, v11, v12, v13, v14, v15, v16, v17] ∧ H' ah = some (.lst us) ∧ A2 (AhAt T H') us trs ∧ us.length ≤ i ∧ Fr ah Hl H')
      ⟨none, none, none, none, none, none, none, none, none, none, none, none, none, none, none, none, [], [], rfl, gah, trivial, Nat.le_refl _, Fr.refl _ _⟩ (fun i σ H' _ ⟨_, _, _, _, _, _, _, _, _, _, _, _, _, _, _, _, _, _, _, _, _, _, e⟩ => SqL.of (e _ _ nal gl)) ?_ ?_
    · rintro i y σ H0 hi ⟨v2, v3, v4, v5, v6, v7, v8, v9, v10, v11, v12, v13, v14, v15, v16, v17, us, trs, rfl, hu, hT, ul, fr0⟩
      obtain ⟨n, rfl⟩ := allI y (List.mem_of_getElem? hi)
      refine ⟨_, rfl, n, rfl, fun H1 s s0 w1 s1 => ?_⟩
      refine ⟨_, rfl, s, 2, rfl, w1, by decide, by decide, fun H2 d1 l1 w2 f2 => ⟨_, _, rfl, rfl, ?_⟩⟩
      have l1 : d1 < 2 := by omega
      obtain ⟨m6, t1, t2, t3, t4⟩ := at_six l1
      refine ⟨_, rfl, _, rfl, _, rfl, (by show 2 ≤ sizeLine; decide), fun p1 hp1 => ⟨_, rfl, _, _, rfl, rfl, p1, _, _, _, rfl, rfl, SqL.of upd_same, t1, s, m6, rfl, w2.new hp1, t2, by omega, fun H3 d2 l2 w3 f3 => ⟨_, _, rfl, rfl, ?_⟩⟩⟩
      refine ⟨s, 2 + (d1 : Int), 2, 1 + d2, rfl, w3, by omega, by omega, by decide, by decide, by omega, fun H4 hp c f caps ts ds hp0 hpt c0 hc hC hM hcl f0 hf hA hdl ok1 w4 f4 => ?_⟩
      have S4 : Same H0 H4 := same_fr (same_fr ((same_fr s1 f2 s0).trans (same_new hp1)) f3 s0) f4 s0
      refine ⟨hp, _, rfl, SqT.of hpt, rfl, _, _, rfl, _, _, rfl, rfl, ?_⟩
      have ok : ∀ d ∈ ds, d.ok caps := fun d hd => ok1_ok2 (ok1 d hd) hM
      have clen : caps.length = 2 + d1 := by omega
      have dlen : ds.length ≤ 6 := by omega
      have l24 : (treeOf caps ds).leaves ≤ 24 := by
        have : d1 = 0 ∨ d1 = 1 := by omega
        rcases this with rfl | rfl
        · exact Nat.le_trans (tree_two (by omega) (fun x hx => ⟨(hM x hx).1, by have := (hM x hx).2; omega⟩) ok) (by decide)
        · exact Nat.le_trans leaves_pow (pow24 (by have := t4 rfl; omega))
      have c6 : caps.length ≤ 6 := by omega
      have dep : depthT (treeOf caps ds) ≤ 6 := Nat.le_trans grow_depth dlen
      refine ⟨_, rfl, _, _, rfl, rfl, ?_⟩
      refine ⟨(by show 0 ≤ sizeLine; decide), fun ins hins => ?_⟩
      show _
      generalize hG__ : upd H4 ins _ = H5
      have y5 : Same H4 H5 := by rw [← hG__]; exact same_new hins
      have kins : H5 ins = some (.lst []) := by rw [← hG__]; exact upd_same
      clear hG__
      have S5 := S4.trans y5
      have ins0 : H0 ins = none := S4.free hins
      clear S4 s1 f2 f3 f4 w1 w2 w3 w4 hp1 t1 hpt
      refine ⟨_, rfl, _, rfl, c, caps, 2 + (d1 : Int) + 1, rfl, y5 _ _ hc, by omega, fun x hx => ⟨(hM x hx).1, (hM x hx).2⟩, by omega, by omega, fun H6 sl ts2 sts sl0 hsl hTA hmem hlen6 s6 => ?_⟩
      have p62 : (2 + (d1 : Int) + 1) < 2 ^ 62 := by
        have : ((2 : Int) ^ 62) > 1000 := by decide
        omega
      have p1 : 1 ≤ 2 + (d1 : Int) + 1 := by omega
      have nsl : sl ≠ ins := fun e => by rw [e, kins] at sl0; cases sl0
      have c46 := (y5.trans s6) _ _ hc
      refine ⟨sl, rfl, ⟨_, SqL.of hsl⟩, ?_⟩
      have ninc : c ≠ ins := fun e => by rw [← e, hc] at hins; cases hins
      refine for_list (K := K) (a := sl) (xs := ts2) (fun j σ H' => ∃ (w9 w10 w11 : Option V) (gs : List V), σ = [some (.ref a), some (.ref ah), some (.int n), some (.ref s), some (.int (2 + (d1 : Int))), some (.ref c), some (.ref f), some (.int (2 + (d1 : Int) + 1)), some (.ref ins), w9, w10, w11, v12, v13, v14, v15, v16, v17] ∧ H' ins = some (.lst gs) ∧ A2 (TupJ H') gs ((sts.take j).filter (gB caps (2 + (d1 : Int) + 1))) ∧ Fr ins H6 H')
        ⟨v9, v10, v11, [], rfl, s6 _ _ kins, by simp [A2], Fr.refl _ _⟩ (fun j σ H' _ ⟨_, _, _, _, _, _, _, e⟩ => SqL.of (e _ _ nsl hsl)) ?_ ?_
      · rintro j y σ H7 hj ⟨w9, w10, w11, gs, rfl, k1, k2, k3⟩
        obtain ⟨st, hst, hy⟩ := hTA.get hj
        obtain ⟨t, rfl, y1⟩ := hy.fr k3 (s6 _ _ kins) bl_l
        have sm := (hmem st).mp (List.mem_of_getElem? hst)
        have jl : j < ts2.length := (List.getElem?_eq_some_iff.mp hj).1
        have c7 := k3 _ _ ninc c46
        refine ⟨_, rfl, _, rfl, by omega, by omega, fun D hD => ?_⟩
        refine lc_range (lo := 0) (n := (2 + (d1 : Int)).toNat) (fun k H' => ∃ acc : List V, H' D = some (.lst acc) ∧ acc.length ≤ k ∧ (acc.isEmpty = true ↔ ∀ i, i < k → at0 st i ≠ at0 caps i * (2 + (d1 : Int) + 1)) ∧ Same H7 H') ⟨[], upd_same, Nat.le_refl _, ⟨fun _ i hi => absurd hi (Nat.not_lt_zero _), fun _ => rfl⟩, same_new hD⟩ ?_ ?_
        · rintro k H8 hk ⟨acc, g1, g2, g3, g4⟩
          have kl : k < caps.length := by omega
          have e0 : (0 : Int) + (k : Int) = (k : Int) := Int.zero_add _
          refine ⟨rfl, _, rfl, _, rfl, t, _, _, _, rfl, rfl, SqT.of (g4 _ _ y1), (by rw [e0]; exact vi_at (by rw [sm.1]; exact kl)), _, rfl, _, rfl, c, _, _, _, rfl, rfl, SqL.of (g4 _ _ c7), (by rw [e0]; exact vi_at kl), _, rfl, _, _, rfl, rfl, .inr ⟨by omega, by omega⟩, rfl, _, rfl, ?_⟩
          have split : ∀ b : Bool, (b = true ↔ (∀ i, i < k → at0 st i ≠ at0 caps i * (2 + (d1 : Int) + 1)) ∧ at0 st k ≠ at0 caps k * (2 + (d1 : Int) + 1)) → (b = true ↔ ∀ i, i < k + 1 → at0 st i ≠ at0 caps i * (2 + (d1 : Int) + 1)) := fun b hb => by
            rw [hb]
            constructor
            · rintro ⟨h1, h2⟩ i hi
              by_cases e : i = k
              · rw [e]; exact h2
              · exact h1 i (by omega)
            · exact fun h => ⟨fun i hi => h i (by omega), h k (by omega)⟩
          refine ifD (fun c1 => ?_) (fun c1 => ?_)
          · refine ⟨_, rfl, acc, g1, small1000 (by omega), _, upd_same, by rw [List.length_append]; exact Nat.succ_le_succ g2, split _ ?_, same_mut g4 hD⟩
            have c1 : at0 st k = at0 caps k * (2 + (d1 : Int) + 1) := V.int.inj c1
            exact ⟨fun h => by simp at h, fun h => absurd c1 h.2⟩
          · refine ⟨acc, g1, Nat.le_succ_of_le g2, split _ ?_, g4⟩
            have c1 : at0 st k ≠ at0 caps k * (2 + (d1 : Int) + 1) := fun z => c1 (congrArg V.int z)
            rw [g3]
            exact ⟨fun h => ⟨h, c1⟩, fun h => h.1⟩
        · rintro H8 ⟨acc, g1, g2, g3, g4⟩
          have tk : sts.take (j + 1) = sts.take j ++ [st] := by rw [List.take_add_one, hst]; rfl
          have k18 := g4 _ _ k1
          have y8 := g4 _ _ y1
          have gl : gs.length ≤ 1000 := by
            have := k2.len
            have := List.length_filter_le (gB caps (2 + (d1 : Int) + 1)) (sts.take j)
            rw [List.length_take] at this
            omega
          have st1 : 0 < st.length := by rw [sm.1]; omega
          refine ⟨_, rfl, t, st, rfl, SqT.of y8, st1, fun m hm hle => ?_⟩
          have mm : (0 < m) ↔ ∀ i, i < caps.length → 1 ≤ at0 st i := by
            constructor
            · intro h i hi
              have := hle _ (at0_mem (show i < st.length by rw [sm.1]; exact hi))
              omega
            · intro h
              obtain ⟨i, hi, e⟩ := List.mem_iff_getElem.mp hm
              have e2 : at0 st i = m := at0_of (by rw [List.getElem?_eq_getElem hi, e])
              have := h i (by rw [← sm.1]; exact hi)
              omega
          have no : gB caps (2 + (d1 : Int) + 1) st = false → ∀ H9, Same H8 H9 → ∃ (u9 u10 u11 : Option V) (gs' : List V), [some (.ref a), some (.ref ah), some (.int n), some (.ref s), some (.int (2 + (d1 : Int))), some (.ref c), some (.ref f), some (.int (2 + (d1 : Int) + 1)), some (.ref ins), some (V.ref t), some (V.ref D), w11, v12, v13, v14, v15, v16, v17] = [some (.ref a), some (.ref ah), some (.int n), some (.ref s), some (.int (2 + (d1 : Int))), some (.ref c), some (.ref f), some (.int (2 + (d1 : Int) + 1)), some (.ref ins), u9, u10, u11, v12, v13, v14, v15, v16, v17] ∧ H9 ins = some (.lst gs') ∧ A2 (TupJ H9) gs' ((sts.take (j + 1)).filter (gB caps (2 + (d1 : Int) + 1))) ∧ Fr ins H6 H9 := fun e H9 s9 => by
            refine ⟨_, _, _, gs, rfl, s9 _ _ k18, ?_, k3.trans (Fr.of (g4.trans s9))⟩
            rw [tk, List.filter_append, List.filter_cons_of_neg (by rw [e]; decide), List.filter_nil, List.append_nil]
            exact A2.mono (fun _ _ q => q.same (g4.trans s9)) k2
          refine ⟨_, _, rfl, rfl, _, rfl, ifD (fun m0 => ?_) (fun m0 => ?_)⟩
          · refine ⟨_, rfl, (by show 0 ≤ sizeLine; decide), fun z2 hz2 => ⟨D, z2, _, rfl, rfl, same_new hz2 _ _ g1, upd_same, _, rfl, ?_⟩⟩
            have s9 := same_new (o := .lst ([] : List V)) hz2
            cases eA : acc.isEmpty with
            | true =>
              have yes : gB caps (2 + (d1 : Int) + 1) st = true := decide_eq_true fun i hi => by
                have q1 := mm.mp m0 i hi
                have q2 := (sm.2 i hi).2
                have q3 := g3.mp eA i (by omega)
                omega
              refine ifT rfl ?_
              have k19 := s9 _ _ k18
              refine ⟨_, rfl, .inl ⟨rfl, _, SqL.of k19⟩, _, rfl, ins, _, _, rfl, rfl, k19, small1000' gl, ?_⟩
              have fI : Fr ins (upd H8 z2 (.lst [])) (upd (upd H8 z2 (.lst [])) ins (.lst (gs ++ [V.ref t]))) := fr_mut (Fr.refl _ _)
              refine ⟨_, _, _, gs ++ [V.ref t], rfl, upd_same, ?_, fr_mut (k3.trans (Fr.of (g4.trans s9)))⟩
              rw [tk, List.filter_append, List.filter_cons_of_pos yes, List.filter_nil]
              exact A2.app (A2.mono (fun _ _ q => (q.same (g4.trans s9)).fr fI k19 bl_l) k2) ⟨TupJ.fr fI k19 bl_l ⟨t, rfl, s9 _ _ y8⟩, trivial⟩
            | false =>
              refine ifF rfl (no (decide_eq_false fun h => ?_) _ s9)
              have : acc.isEmpty = true := g3.mpr fun i hi e => by
                have := h i (by omega)
                omega
              rw [eA] at this
              cases this
          · refine no (decide_eq_false fun h => m0 (mm.mpr fun i hi => (h i hi).1)) _ (Same.refl _)
      · rintro σ H7 ⟨w9, w10, w11, gs, rfl, k1, k2, k3⟩
        rw [hTA.len, List.take_length] at k2
        have S7 : Same H0 H7 := fun b o e => k3 b o (ne_of_none e ins0) ((S5.trans s6) b o e)
        have c7 := k3 _ _ ninc c46
        have nfin : f ≠ ins := fun e => by rw [← e, hf] at hins; cases hins
        have f7 := k3 _ _ nfin ((y5.trans s6) _ _ hf)
        have hA7 := A2.mono (fun _ _ q => (FactAt.same (y5.trans s6) q).fr k3 (s6 _ _ kins) bl_l) hA
        have gl7 : gs.length ≤ 1000 := by
          have := k2.len
          have := List.length_filter_le (gB caps (2 + (d1 : Int) + 1)) sts
          have := hTA.len
          omega
        have hI : Inside (2 + (d1 : Int) + 1) (firstShares caps) (sts.filter (gB caps (2 + (d1 : Int) + 1))) := by
          refine inside_first (by omega) hC.lo (fun st hl => ?_) fun st h => ((hmem st).mp (List.mem_filter.mp h).1).1
          rw [List.mem_filter, hmem]
          unfold gB
          rw [decide_eq_true_iff]
          refine ⟨fun h => h.2, fun h => ⟨⟨hl, fun i hi => ?_⟩, h⟩⟩
          have := h i hi
          omega
        have hLen : ∀ st ∈ sts.filter (gB caps (2 + (d1 : Int) + 1)), st.length = caps.length := fun st h => ((hmem st).mp (List.mem_filter.mp h).1).1
        refine ⟨_, rfl, _, rfl, by omega, by omega, fun D hD => ?_⟩
        refine lc_range (lo := 0) (n := (2 + (d1 : Int)).toNat) (fun k H' => ∃ acc : List V, H' D = some (.lst acc) ∧ A2 (SmAt H') acc ((firstShares caps).take k) ∧ acc.length ≤ k ∧ Same H7 H') ⟨[], upd_same, by simp [A2], Nat.le_refl _, same_new hD⟩ ?_ ?_
        · rintro k H8 hk ⟨acc, g1, g2, gk, g4⟩
          have kl : k < caps.length := by omega
          have e0 : (0 : Int) + (k : Int) = (k : Int) := Int.zero_add _
          refine ⟨rfl, _, rfl, (by show 1 ≤ sizeLine; decide), fun q1 hq1 => ?_⟩
          show _
          generalize hG__ : upd H8 q1 _ = H9
          have z1 : Same H8 H9 := by rw [← hG__]; exact same_new hq1
          have e1 : H9 q1 = some (.tup [V.int (0 + (k : Int))]) := by rw [← hG__]; exact upd_same
          clear hG__
          refine ⟨(by show 2 ≤ sizeLine; decide), fun q2 hq2 => ?_⟩
          show _
          generalize hG__ : upd H9 q2 _ = H10
          have z2 : Same H9 H10 := by rw [← hG__]; exact same_new hq2
          have e2 : H10 q2 = some (.tup [V.ref q1, V.int 0]) := by rw [← hG__]; exact upd_same
          clear hG__
          have e1 := z2 _ _ e1
          have s10 := z1.trans z2
          refine ⟨acc, s10 _ _ g1, small1000 (by omega), acc ++ [V.ref q2], upd_same, ?_, by rw [List.length_append]; exact Nat.succ_le_succ gk, same_mut (g4.trans s10) hD⟩
          have fD : Fr D H10 (upd H10 D (.lst (acc ++ [V.ref q2]))) := fr_mut (Fr.refl _ _)
          have fk : (firstShares caps)[k]? = some ⟨[(k : Int)], 0, 0, at0 caps k⟩ := by
            unfold firstShares
            rw [List.getElem?_map, List.getElem?_range kl]
            rfl
          rw [List.take_add_one, fk]
          rw [e0] at e1
          exact A2.app (A2.mono (fun _ _ q => (q.same s10).fr fD (s10 _ _ g1) bl_l) g2) ⟨SmAt.fr fD (s10 _ _ g1) bl_l ⟨q2, q1, rfl, e2, e1⟩, trivial⟩
        · rintro H8 ⟨acc, g1, g2, gk, s8⟩
          rw [List.take_of_length_le (by rw [firstShares_len]; omega)] at g2
          have k18 := s8 _ _ k1
          refine ⟨_, rfl, _, rfl, _, rfl, (by show 3 ≤ sizeLine; decide), fun mt hmt => ?_⟩
          show _
          generalize hG__ : upd H8 mt _ = H9
          have z9 : Same H8 H9 := by rw [← hG__]; exact same_new hmt
          have e9 : H9 mt = some (.tup [V.ref c, V.ref f, V.int (2 + (d1 : Int) + 1)]) := by rw [← hG__]; exact upd_same
          clear hG__
          have s79 := s8.trans z9
          refine ⟨_, rfl, _, rfl, mt, c, f, D, ins, 0, 2 + (d1 : Int) + 1, caps, ts, gs, ds, firstShares caps, _, rfl, e9, s79 _ _ c7, s79 _ _ f7, A2.mono (fun _ _ q => FactAt.same s79 q) hA7, ok, by omega, Nat.zero_le _, ⟨acc, z9 _ _ g1, A2.mono (fun _ _ q => q.same z9) g2⟩, Shs.first c6, first_good, ?_, p1, by omega, z9 _ _ k18, A2.mono (fun _ _ q => q.same s79) k2, hI, hLen, gl7, c6, by omega, fun H10 du hdu s10 => ?_⟩
          · have := (Shs.first (caps := caps) c6).len
            have gf : glen (firstShares caps) = caps.length := by
              unfold glen firstShares
              rw [List.map_map]
              have : ((fun s : Sh => s.g.length) ∘ fun i : Nat => (⟨[(i : Int)], 0, 0, at0 caps i⟩ : Sh)) = fun _ => 1 := rfl
              rw [this, sum_ones]
            rw [gf]
            omega
          have S10 := S7.trans (s79.trans s10)
          have hdu : TrAt T H10 du (treeOf caps ds) := hdu
          have sA := s79.trans s10
          refine ⟨_, rfl, _, rfl, c, f, caps, ts, ds, rfl, sA _ _ c7, hC, sA _ _ f7, A2.mono (fun _ _ q => FactAt.same sA q) hA7, by omega, ok, fun H11 r r0 hR s11 => ?_⟩
          refine ⟨_, rfl, r, caps, ds, rfl, hR, c6, ok, by omega, fun _ H12 tv hT12 s12 => ?_, fun big => absurd l24 (by omega)⟩
          have d12 := (hdu.same s11).same s12
          refine ⟨_, rfl, neTree hT12 d12 dep fun H13 x13 => ⟨_, rfl, ifF rfl ?_⟩⟩
          have s13 : Same H12 H13 := fun b o z => x13 b o z
          obtain ⟨dp, dC, ddx, dfs, rfl, dd1, tyd, dce⟩ := (d12.same s13).tyX
          have ky : PySem.W.kitOne K (.ref dC) (.ref T.cTree) = some true := by
            cases hh : treeOf caps ds with
            | leaf _ => rw [hh] at dce; cases dce; exact T.iLeaf_Tree
            | test _ _ _ _ _ => rw [hh] at dce; cases dce; exact T.iTest_Tree
          refine ⟨_, rfl, .ref dp, .ref T.cTree, _, _, true, rfl, .own _, tyd, ky, _, rfl, ifF rfl ?_⟩
          have sB := ((sA.trans s11).trans s12).trans s13
          refine ⟨_, rfl, _, rfl, c, f, caps, ts, ds, rfl, sB _ _ c7, hC, sB _ _ f7, A2.mono (fun _ _ q => FactAt.same sB q) hA7, by omega, ok, fun H14 r2 r20 hR2 s14 => ?_⟩
          refine ⟨r2, caps, ds, rfl, hR2, c6, ok, by omega, fun _ H15 tv2 hT15 s15 => ?_, fun big => absurd l24 (by omega)⟩
          have d15 := ((d12.same s13).same s14).same s15
          refine ⟨_, rfl, neTree hT15 d15 dep fun H16 x16 => ⟨_, rfl, ifF rfl ?_⟩⟩
          have s16 : Same H15 H16 := fun b o z => x16 b o z
          have S16 : Same H0 H16 := S7.trans (((sB.trans s14).trans s15).trans s16)
          have d16 := d15.same s16
          have hu16 := S16 _ _ hu
          have hT16 := A2.mono (fun _ _ q => AhAt.same S16 q) hT
          have okt : okT caps.length (treeOf caps ds) := tree_okT c6 ok
          refine ⟨_, rfl, ah, rfl, ⟨_, SqL.of hu16⟩, ?_⟩
          refine for_list (K := K) (a := ah) (xs := us) (fun j σ H' => ∃ (w16 w17 : Option V), σ = [some (.ref a), some (.ref ah), some (.int n), some (.ref s), some (.int (2 + (d1 : Int))), some (.ref c), some (.ref f), some (.int (2 + (d1 : Int) + 1)), some (.ref ins), w9, w10, w11, some (.ref D), v13, some (.ref dp), some (.ref r), w16, w17] ∧ Same H16 H')
            ⟨v16, v17, rfl, Same.refl _⟩ (fun j σ H' _ ⟨_, _, _, e⟩ => SqL.of (e _ _ hu16)) ?_ ?_
          · rintro j y σ H17 hj ⟨w16, w17, rfl, s17⟩
            obtain ⟨t, ht, hy, yd, n2, yok⟩ := hT16.get hj
            refine ⟨_, rfl, y, t, n2, rfl, hy.same s17, by omega, by decide, yok, fun H18 u18 p18 s18 => ?_⟩
            refine ⟨_, rfl, .ref dp, treeOf caps ds, caps.length, rfl, d16.same (s17.trans s18), by omega, by decide, okt, fun H19 u19 p19 s19 => ?_⟩
            refine eqD (dp_same s19 p18) p19 (flatU.mono (by omega)) (flatU.mono (by omega)) ?_
            rw [eqvU]
            have s1719 := (s17.trans s18).trans s19
            refine ⟨_, rfl, _, rfl, decide (t = treeOf caps ds), ⟨t, treeOf caps ds, hy.same s1719, d16.same s1719, yd, rfl⟩, fun H20 x20 => ?_⟩
            refine ⟨_, rfl, rfl, _, rfl, ifF (by simp) ?_⟩
            exact ⟨_, _, rfl, s1719.trans fun b o z => x20 b o z⟩
          · rintro σ H17 ⟨w16, w17, rfl, s17⟩
            have hu17 := s17 _ _ hu16
            have il : i < xs.length := (List.getElem?_eq_some_iff.mp hi).1
            refine ⟨_, rfl, .inl ⟨rfl, _, SqL.of hu17⟩, _, rfl, ah, _, _, rfl, rfl, hu17, small1000 (by omega), ?_⟩
            have fA : Fr ah H17 (upd H17 ah (.lst (us ++ [V.ref dp]))) := fr_mut (Fr.refl _ _)
            refine ⟨_, _, _, _, _, _, _, _, _, _, _, _, _, _, _, _, us ++ [V.ref dp], trs ++ [treeOf caps ds], rfl, upd_same, ?_, by rw [List.length_append]; exact Nat.succ_le_succ ul, fr_mut (fr0.trans (Fr.of (S16.trans s17)))⟩
            exact A2.app (A2.mono (fun _ _ q => ⟨(q.1.same s17).fr fA hu17 bl_l, q.2⟩) hT16) ⟨⟨(d16.same s17).fr fA hu17 bl_l, dep, _, okt⟩, trivial⟩
    · rintro σ H' _
      exact hq _
end
end Kp

namespace Kp
open PySem PySem.Spec PyProof.Rows L2 KpR
theorem funD1 {K : PySem.W.Frag} {f D : Addr} {x qual p1 : Str} {n1 : Int} {st : Stmt} {oc doc pm cdv ct : Value} {od an : Option Addr} {osl : Array (Option Value)} {t1 : Tok}
    (l : K.lookup f = some ⟨oc, od, .func (PySem.W.fnOf x qual (defArgs st) (defBody st) (defScope st) .none (.ref D) doc pm an cdv ct), osl⟩) (c : PySem.W.codeIn K cdv qual = true) (k : PySem.W.keepIn K (.ref f) = true)
    (w1 : PySem.W.nsIn K D p1 = some (some (.int n1 t1))) :
    FunD K x qual (defArgs st) (defBody st) (defScope st) [] [(p1, .int n1)] f (PySem.W.fnOf x qual (defArgs st) (defBody st) (defScope st) .none (.ref D) doc pm an cdv ct) := by
  refine ⟨⟨oc, od, .none, .ref D, doc, pm, an, cdv, ct, osl, rfl, l, c, .inl ⟨rfl, rfl⟩, .inr ⟨D, rfl, fun q hq => ?_⟩⟩, k⟩
  rcases List.mem_cons.mp hq with e | hq
  · rw [e]
    exact ⟨_, w1, _, rfl⟩
  · cases hq
theorem funD2 {K : PySem.W.Frag} {f D : Addr} {x qual : Str} {st : Stmt} {oc doc pm cdv ct : Value} {od an : Option Addr} {osl : Array (Option Value)} {t1 t2 : Tok}
    (l : K.lookup f = some ⟨oc, od, .func (PySem.W.fnOf x qual (defArgs st) (defBody st) (defScope st) .none (.ref D) doc pm an cdv ct), osl⟩) (c : PySem.W.codeIn K cdv qual = true) (k : PySem.W.keepIn K (.ref f) = true)
    (w1 : PySem.W.nsIn K D "parts" = some (some (.int 1 t1))) (w2 : PySem.W.nsIn K D "times" = some (some (.int 1 t2))) :
    FunD K x qual (defArgs st) (defBody st) (defScope st) [] [("parts", .int 1), ("times", .int 1)] f (PySem.W.fnOf x qual (defArgs st) (defBody st) (defScope st) .none (.ref D) doc pm an cdv ct) := by
  refine ⟨⟨oc, od, .none, .ref D, doc, pm, an, cdv, ct, osl, rfl, l, c, .inl ⟨rfl, rfl⟩, .inr ⟨D, rfl, fun q hq => ?_⟩⟩, k⟩
  rcases List.mem_cons.mp hq with e | hq
  · rw [e]
    exact ⟨_, w1, _, rfl⟩
  · rcases List.mem_cons.mp hq with e | hq
    · rw [e]
      exact ⟨_, w2, _, rfl⟩
    · cases hq
theorem kit_tyV {K : PySem.W.Frag} {T : String} {A : Addr} {b : Bool} (h : PySem.W.subIn K (.ref A) (.type T) = some b) (m : PySem.W.kitMeta T = true := by decide +kernel) : PySem.W.kitOne K (.ref A) (.type T) = some b := by
  have ne : ¬ (Value.ref A == Value.type T) = true := fun z => nomatch eq_of_beq z
  unfold PySem.W.kitOne
  rw [if_neg ne]
  show (if PySem.W.kitMeta T = true then PySem.W.subIn K (.ref A) (.type T) else none) = some b
  rw [if_pos m]
  exact h
theorem all_mk {l : PySem.W.OpenLaw} {w : World} {K : PySem.W.Frag} {h : Heap} {mg : Str → Option Value} {fa CJars CPour CPut CDraw CChange CRow CShare CSum CLeaf CTest CGrower CTree CWide fcheckmuch fcheckjar fcheckdeed fJarsInit fPourInit fPutInit fDrawInit fChangeInit fRowInit fWideInit fShareInit ffirstshares fofnojar ftogether fatmost fatleast ftested flimitof ffirstway fsecondway fischoice fonlyway fSumInit fLeafInit fTestInit fGrowerInit fGrowerLeaf fGrowerGrown fGrowerParted ftreeof fSumEq fLeafEq fTestEq fLstate fLdigit fLdeed fLhouse fLrow fLstarts fLcometo fLtest fLgone fLgrown fLtold flaw : Addr} (X : K.In h) (G : h.Ns mainGlobals mg) (hfa : mg "law" = some (.ref fa))
    {odcheckmuch ancheckmuch odcheckjar ancheckjar odcheckdeed ancheckdeed odJarsInit anJarsInit odPourInit anPourInit odPutInit anPutInit odDrawInit anDrawInit odChangeInit anChangeInit odRowInit anRowInit odWideInit anWideInit odShareInit anShareInit odfirstshares anfirstshares odofnojar anofnojar odtogether antogether odatmost anatmost odatleast anatleast odtested antested odlimitof anlimitof odfirstway anfirstway odsecondway ansecondway odischoice anischoice odonlyway anonlyway odSumInit anSumInit odLeafInit anLeafInit odTestInit anTestInit odGrowerInit anGrowerInit odGrowerLeaf anGrowerLeaf odGrowerGrown anGrowerGrown odGrowerParted anGrowerParted odtreeof antreeof odSumEq anSumEq odLeafEq anLeafEq odTestEq anTestEq odLstate anLstate odLdigit anLdigit odLdeed anLdeed odLhouse anLhouse odLrow anLrow odLstarts anLstarts odLcometo anLcometo odLtest anLtest odLgone anLgone odLgrown anLgrown odLtold anLtold odlaw anlaw : Option Addr} {slcheckmuch slcheckjar slcheckdeed slJarsInit slPourInit slPutInit slDrawInit slChangeInit slRowInit slWideInit slShareInit slfirstshares slofnojar sltogether slatmost slatleast sltested sllimitof slfirstway slsecondway slischoice slonlyway slSumInit slLeafInit slTestInit slGrowerInit slGrowerLeaf slGrowerGrown slGrowerParted sltreeof slSumEq slLeafEq slTestEq slLstate slLdigit slLdeed slLhouse slLrow slLstarts slLcometo slLtest slLgone slLgrown slLtold sllaw : Array (Option Value)} {occheckmuch dccheckmuch pmcheckmuch cdcheckmuch ctcheckmuch kVcheckmuch occheckjar dccheckjar pmcheckjar cdcheckjar ctcheckjar kVcheckjar occheckdeed dccheckdeed pmcheckdeed cdcheckdeed ctcheckdeed kVcheckdeed ocJarsInit dcJarsInit pmJarsInit cdJarsInit ctJarsInit kVJarsInit ocPourInit dcPourInit pmPourInit cdPourInit ctPourInit kVPourInit ocPutInit dcPutInit pmPutInit cdPutInit ctPutInit kVPutInit ocDrawInit dcDrawInit pmDrawInit cdDrawInit ctDrawInit kVDrawInit ocChangeInit dcChangeInit pmChangeInit cdChangeInit ctChangeInit kVChangeInit ocRowInit dcRowInit pmRowInit cdRowInit ctRowInit kVRowInit ocWideInit dcWideInit pmWideInit cdWideInit ctWideInit kVWideInit ocShareInit dcShareInit pmShareInit cdShareInit ctShareInit kVShareInit ocfirstshares dcfirstshares pmfirstshares cdfirstshares ctfirstshares kVfirstshares ocofnojar dcofnojar pmofnojar cdofnojar ctofnojar kVofnojar octogether dctogether pmtogether cdtogether cttogether kVtogether ocatmost dcatmost pmatmost cdatmost ctatmost kVatmost ocatleast dcatleast pmatleast cdatleast ctatleast kVatleast octested dctested pmtested cdtested cttested kVtested oclimitof dclimitof pmlimitof cdlimitof ctlimitof kVlimitof ocfirstway dcfirstway pmfirstway cdfirstway ctfirstway kVfirstway ocsecondway dcsecondway pmsecondway cdsecondway ctsecondway kVsecondway ocischoice dcischoice pmischoice cdischoice ctischoice kVischoice oconlyway dconlyway pmonlyway cdonlyway ctonlyway kVonlyway ocSumInit dcSumInit pmSumInit cdSumInit ctSumInit kVSumInit ocLeafInit dcLeafInit pmLeafInit cdLeafInit ctLeafInit kVLeafInit ocTestInit dcTestInit pmTestInit cdTestInit ctTestInit kVTestInit ocGrowerInit dcGrowerInit pmGrowerInit cdGrowerInit ctGrowerInit kVGrowerInit ocGrowerLeaf dcGrowerLeaf pmGrowerLeaf cdGrowerLeaf ctGrowerLeaf kVGrowerLeaf ocGrowerGrown dcGrowerGrown pmGrowerGrown cdGrowerGrown ctGrowerGrown kVGrowerGrown ocGrowerParted dcGrowerParted pmGrowerParted cdGrowerParted ctGrowerParted kVGrowerParted octreeof dctreeof pmtreeof cdtreeof cttreeof kVtreeof ocSumEq dcSumEq pmSumEq cdSumEq ctSumEq kVSumEq ocLeafEq dcLeafEq pmLeafEq cdLeafEq ctLeafEq kVLeafEq ocTestEq dcTestEq pmTestEq cdTestEq ctTestEq kVTestEq ocLstate dcLstate pmLstate cdLstate ctLstate kVLstate ocLdigit dcLdigit pmLdigit cdLdigit ctLdigit kVLdigit ocLdeed dcLdeed pmLdeed cdLdeed ctLdeed kVLdeed ocLhouse dcLhouse pmLhouse cdLhouse ctLhouse kVLhouse ocLrow dcLrow pmLrow cdLrow ctLrow kVLrow ocLstarts dcLstarts pmLstarts cdLstarts ctLstarts kVLstarts ocLcometo dcLcometo pmLcometo cdLcometo ctLcometo kVLcometo ocLtest dcLtest pmLtest cdLtest ctLtest kVLtest ocLgone dcLgone pmLgone cdLgone ctLgone kVLgone ocLgrown dcLgrown pmLgrown cdLgrown ctLgrown kVLgrown ocLtold dcLtold pmLtold cdLtold ctLtold kVLtold oclaw dclaw pmlaw cdlaw ctlaw kVlaw : Value} {tkMOSTJARS tkMOSTDEEDS tkMOSTMUCH tkMOSTLEAVES : Tok}
    {nmXWide qXWide : Str} {NXWide : Addr} {bsXWide bmXWide : List Value} {abXWide : Bool} {snXWide : List Str} {subXWide : List Value} {colXWide : Option Bool} {ddXWide : Option Addr} {r0XWide r1XWide r2XWide r3XWide r5XWide : Option Value}
    (xJars : PySem.W.nsIn K mainGlobals "Jars" = some (some (.ref CJars)))
    (xPour : PySem.W.nsIn K mainGlobals "Pour" = some (some (.ref CPour)))
    (xPut : PySem.W.nsIn K mainGlobals "Put" = some (some (.ref CPut)))
    (xDraw : PySem.W.nsIn K mainGlobals "Draw" = some (some (.ref CDraw)))
    (xChange : PySem.W.nsIn K mainGlobals "Change" = some (some (.ref CChange)))
    (xRow : PySem.W.nsIn K mainGlobals "Row" = some (some (.ref CRow)))
    (xShare : PySem.W.nsIn K mainGlobals "Share" = some (some (.ref CShare)))
    (xSum : PySem.W.nsIn K mainGlobals "Sum" = some (some (.ref CSum)))
    (xLeaf : PySem.W.nsIn K mainGlobals "Leaf" = some (some (.ref CLeaf)))
    (xTest : PySem.W.nsIn K mainGlobals "Test" = some (some (.ref CTest)))
    (xGrower : PySem.W.nsIn K mainGlobals "Grower" = some (some (.ref CGrower)))
    (xTree : PySem.W.nsIn K mainGlobals "Tree" = some (some (.ref CTree)))
    (xWide : PySem.W.nsIn K mainGlobals "Wide" = some (some (.ref CWide)))
    (acheckmuch : PySem.W.nsIn K mainGlobals "check_much" = some (some (.ref fcheckmuch)))
    (lcheckmuch : K.lookup fcheckmuch = some ⟨occheckmuch, odcheckmuch, .func (PySem.W.fnOf "check_much" "check_much" (defArgs scheckmuch) (defBody scheckmuch) (defScope scheckmuch) .none kVcheckmuch dccheckmuch pmcheckmuch ancheckmuch cdcheckmuch ctcheckmuch), slcheckmuch⟩)
    (qcheckmuch : PySem.W.codeIn K cdcheckmuch "check_much" = true)
    (kcheckmuch : PySem.W.keepIn K (.ref fcheckmuch) = true)
    (acheckjar : PySem.W.nsIn K mainGlobals "check_jar" = some (some (.ref fcheckjar)))
    (lcheckjar : K.lookup fcheckjar = some ⟨occheckjar, odcheckjar, .func (PySem.W.fnOf "check_jar" "check_jar" (defArgs scheckjar) (defBody scheckjar) (defScope scheckjar) .none kVcheckjar dccheckjar pmcheckjar ancheckjar cdcheckjar ctcheckjar), slcheckjar⟩)
    (qcheckjar : PySem.W.codeIn K cdcheckjar "check_jar" = true)
    (kcheckjar : PySem.W.keepIn K (.ref fcheckjar) = true)
    (acheckdeed : PySem.W.nsIn K mainGlobals "check_deed" = some (some (.ref fcheckdeed)))
    (lcheckdeed : K.lookup fcheckdeed = some ⟨occheckdeed, odcheckdeed, .func (PySem.W.fnOf "check_deed" "check_deed" (defArgs scheckdeed) (defBody scheckdeed) (defScope scheckdeed) .none kVcheckdeed dccheckdeed pmcheckdeed ancheckdeed cdcheckdeed ctcheckdeed), slcheckdeed⟩)
    (qcheckdeed : PySem.W.codeIn K cdcheckdeed "check_deed" = true)
    (kcheckdeed : PySem.W.keepIn K (.ref fcheckdeed) = true)
    (aJarsInit : PySem.W.findIn K (.ref CJars) "__init__" = some (some (.ref fJarsInit)))
    (iJarsInit : PySem.W.isFn K (.ref fJarsInit) = true)
    (lJarsInit : K.lookup fJarsInit = some ⟨ocJarsInit, odJarsInit, .func (PySem.W.fnOf "__init__" "Jars.__init__" (defArgs sJarsInit) (defBody sJarsInit) (defScope sJarsInit) .none kVJarsInit dcJarsInit pmJarsInit anJarsInit cdJarsInit ctJarsInit), slJarsInit⟩)
    (qJarsInit : PySem.W.codeIn K cdJarsInit "Jars.__init__" = true)
    (kJarsInit : PySem.W.keepIn K (.ref fJarsInit) = true)
    (aPourInit : PySem.W.findIn K (.ref CPour) "__init__" = some (some (.ref fPourInit)))
    (iPourInit : PySem.W.isFn K (.ref fPourInit) = true)
    (lPourInit : K.lookup fPourInit = some ⟨ocPourInit, odPourInit, .func (PySem.W.fnOf "__init__" "Pour.__init__" (defArgs sPourInit) (defBody sPourInit) (defScope sPourInit) .none kVPourInit dcPourInit pmPourInit anPourInit cdPourInit ctPourInit), slPourInit⟩)
    (qPourInit : PySem.W.codeIn K cdPourInit "Pour.__init__" = true)
    (kPourInit : PySem.W.keepIn K (.ref fPourInit) = true)
    (aPutInit : PySem.W.findIn K (.ref CPut) "__init__" = some (some (.ref fPutInit)))
    (iPutInit : PySem.W.isFn K (.ref fPutInit) = true)
    (lPutInit : K.lookup fPutInit = some ⟨ocPutInit, odPutInit, .func (PySem.W.fnOf "__init__" "Put.__init__" (defArgs sPutInit) (defBody sPutInit) (defScope sPutInit) .none kVPutInit dcPutInit pmPutInit anPutInit cdPutInit ctPutInit), slPutInit⟩)
    (qPutInit : PySem.W.codeIn K cdPutInit "Put.__init__" = true)
    (kPutInit : PySem.W.keepIn K (.ref fPutInit) = true)
    (aDrawInit : PySem.W.findIn K (.ref CDraw) "__init__" = some (some (.ref fDrawInit)))
    (iDrawInit : PySem.W.isFn K (.ref fDrawInit) = true)
    (lDrawInit : K.lookup fDrawInit = some ⟨ocDrawInit, odDrawInit, .func (PySem.W.fnOf "__init__" "Draw.__init__" (defArgs sDrawInit) (defBody sDrawInit) (defScope sDrawInit) .none kVDrawInit dcDrawInit pmDrawInit anDrawInit cdDrawInit ctDrawInit), slDrawInit⟩)
    (qDrawInit : PySem.W.codeIn K cdDrawInit "Draw.__init__" = true)
    (kDrawInit : PySem.W.keepIn K (.ref fDrawInit) = true)
    (aChangeInit : PySem.W.findIn K (.ref CChange) "__init__" = some (some (.ref fChangeInit)))
    (iChangeInit : PySem.W.isFn K (.ref fChangeInit) = true)
    (lChangeInit : K.lookup fChangeInit = some ⟨ocChangeInit, odChangeInit, .func (PySem.W.fnOf "__init__" "Change.__init__" (defArgs sChangeInit) (defBody sChangeInit) (defScope sChangeInit) .none kVChangeInit dcChangeInit pmChangeInit anChangeInit cdChangeInit ctChangeInit), slChangeInit⟩)
    (qChangeInit : PySem.W.codeIn K cdChangeInit "Change.__init__" = true)
    (kChangeInit : PySem.W.keepIn K (.ref fChangeInit) = true)
    (aRowInit : PySem.W.findIn K (.ref CRow) "__init__" = some (some (.ref fRowInit)))
    (iRowInit : PySem.W.isFn K (.ref fRowInit) = true)
    (lRowInit : K.lookup fRowInit = some ⟨ocRowInit, odRowInit, .func (PySem.W.fnOf "__init__" "Row.__init__" (defArgs sRowInit) (defBody sRowInit) (defScope sRowInit) .none kVRowInit dcRowInit pmRowInit anRowInit cdRowInit ctRowInit), slRowInit⟩)
    (qRowInit : PySem.W.codeIn K cdRowInit "Row.__init__" = true)
    (kRowInit : PySem.W.keepIn K (.ref fRowInit) = true)
    (aWideInit : PySem.W.findIn K (.ref CWide) "__init__" = some (some (.ref fWideInit)))
    (iWideInit : PySem.W.isFn K (.ref fWideInit) = true)
    (lWideInit : K.lookup fWideInit = some ⟨ocWideInit, odWideInit, .func (PySem.W.fnOf "__init__" "Wide.__init__" (defArgs sWideInit) (defBody sWideInit) (defScope sWideInit) .none kVWideInit dcWideInit pmWideInit anWideInit cdWideInit ctWideInit), slWideInit⟩)
    (qWideInit : PySem.W.codeIn K cdWideInit "Wide.__init__" = true)
    (kWideInit : PySem.W.keepIn K (.ref fWideInit) = true)
    (aShareInit : PySem.W.findIn K (.ref CShare) "__init__" = some (some (.ref fShareInit)))
    (iShareInit : PySem.W.isFn K (.ref fShareInit) = true)
    (lShareInit : K.lookup fShareInit = some ⟨ocShareInit, odShareInit, .func (PySem.W.fnOf "__init__" "Share.__init__" (defArgs sShareInit) (defBody sShareInit) (defScope sShareInit) .none kVShareInit dcShareInit pmShareInit anShareInit cdShareInit ctShareInit), slShareInit⟩)
    (qShareInit : PySem.W.codeIn K cdShareInit "Share.__init__" = true)
    (kShareInit : PySem.W.keepIn K (.ref fShareInit) = true)
    (afirstshares : PySem.W.nsIn K mainGlobals "first_shares" = some (some (.ref ffirstshares)))
    (lfirstshares : K.lookup ffirstshares = some ⟨ocfirstshares, odfirstshares, .func (PySem.W.fnOf "first_shares" "first_shares" (defArgs sfirstshares) (defBody sfirstshares) (defScope sfirstshares) .none kVfirstshares dcfirstshares pmfirstshares anfirstshares cdfirstshares ctfirstshares), slfirstshares⟩)
    (qfirstshares : PySem.W.codeIn K cdfirstshares "first_shares" = true)
    (kfirstshares : PySem.W.keepIn K (.ref ffirstshares) = true)
    (aofnojar : PySem.W.nsIn K mainGlobals "of_no_jar" = some (some (.ref fofnojar)))
    (lofnojar : K.lookup fofnojar = some ⟨ocofnojar, odofnojar, .func (PySem.W.fnOf "of_no_jar" "of_no_jar" (defArgs sofnojar) (defBody sofnojar) (defScope sofnojar) .none kVofnojar dcofnojar pmofnojar anofnojar cdofnojar ctofnojar), slofnojar⟩)
    (qofnojar : PySem.W.codeIn K cdofnojar "of_no_jar" = true)
    (kofnojar : PySem.W.keepIn K (.ref fofnojar) = true)
    (atogether : PySem.W.nsIn K mainGlobals "together" = some (some (.ref ftogether)))
    (ltogether : K.lookup ftogether = some ⟨octogether, odtogether, .func (PySem.W.fnOf "together" "together" (defArgs stogether) (defBody stogether) (defScope stogether) .none kVtogether dctogether pmtogether antogether cdtogether cttogether), sltogether⟩)
    (qtogether : PySem.W.codeIn K cdtogether "together" = true)
    (ktogether : PySem.W.keepIn K (.ref ftogether) = true)
    (aatmost : PySem.W.nsIn K mainGlobals "at_most" = some (some (.ref fatmost)))
    (latmost : K.lookup fatmost = some ⟨ocatmost, odatmost, .func (PySem.W.fnOf "at_most" "at_most" (defArgs satmost) (defBody satmost) (defScope satmost) .none kVatmost dcatmost pmatmost anatmost cdatmost ctatmost), slatmost⟩)
    (qatmost : PySem.W.codeIn K cdatmost "at_most" = true)
    (katmost : PySem.W.keepIn K (.ref fatmost) = true)
    (aatleast : PySem.W.nsIn K mainGlobals "at_least" = some (some (.ref fatleast)))
    (latleast : K.lookup fatleast = some ⟨ocatleast, odatleast, .func (PySem.W.fnOf "at_least" "at_least" (defArgs satleast) (defBody satleast) (defScope satleast) .none kVatleast dcatleast pmatleast anatleast cdatleast ctatleast), slatleast⟩)
    (qatleast : PySem.W.codeIn K cdatleast "at_least" = true)
    (katleast : PySem.W.keepIn K (.ref fatleast) = true)
    (atested : PySem.W.nsIn K mainGlobals "tested" = some (some (.ref ftested)))
    (ltested : K.lookup ftested = some ⟨octested, odtested, .func (PySem.W.fnOf "tested" "tested" (defArgs stested) (defBody stested) (defScope stested) .none kVtested dctested pmtested antested cdtested cttested), sltested⟩)
    (qtested : PySem.W.codeIn K cdtested "tested" = true)
    (ktested : PySem.W.keepIn K (.ref ftested) = true)
    (alimitof : PySem.W.nsIn K mainGlobals "limit_of" = some (some (.ref flimitof)))
    (llimitof : K.lookup flimitof = some ⟨oclimitof, odlimitof, .func (PySem.W.fnOf "limit_of" "limit_of" (defArgs slimitof) (defBody slimitof) (defScope slimitof) .none kVlimitof dclimitof pmlimitof anlimitof cdlimitof ctlimitof), sllimitof⟩)
    (qlimitof : PySem.W.codeIn K cdlimitof "limit_of" = true)
    (klimitof : PySem.W.keepIn K (.ref flimitof) = true)
    (afirstway : PySem.W.nsIn K mainGlobals "first_way" = some (some (.ref ffirstway)))
    (lfirstway : K.lookup ffirstway = some ⟨ocfirstway, odfirstway, .func (PySem.W.fnOf "first_way" "first_way" (defArgs sfirstway) (defBody sfirstway) (defScope sfirstway) .none kVfirstway dcfirstway pmfirstway anfirstway cdfirstway ctfirstway), slfirstway⟩)
    (qfirstway : PySem.W.codeIn K cdfirstway "first_way" = true)
    (kfirstway : PySem.W.keepIn K (.ref ffirstway) = true)
    (asecondway : PySem.W.nsIn K mainGlobals "second_way" = some (some (.ref fsecondway)))
    (lsecondway : K.lookup fsecondway = some ⟨ocsecondway, odsecondway, .func (PySem.W.fnOf "second_way" "second_way" (defArgs ssecondway) (defBody ssecondway) (defScope ssecondway) .none kVsecondway dcsecondway pmsecondway ansecondway cdsecondway ctsecondway), slsecondway⟩)
    (qsecondway : PySem.W.codeIn K cdsecondway "second_way" = true)
    (ksecondway : PySem.W.keepIn K (.ref fsecondway) = true)
    (aischoice : PySem.W.nsIn K mainGlobals "is_choice" = some (some (.ref fischoice)))
    (lischoice : K.lookup fischoice = some ⟨ocischoice, odischoice, .func (PySem.W.fnOf "is_choice" "is_choice" (defArgs sischoice) (defBody sischoice) (defScope sischoice) .none kVischoice dcischoice pmischoice anischoice cdischoice ctischoice), slischoice⟩)
    (qischoice : PySem.W.codeIn K cdischoice "is_choice" = true)
    (kischoice : PySem.W.keepIn K (.ref fischoice) = true)
    (aonlyway : PySem.W.nsIn K mainGlobals "only_way" = some (some (.ref fonlyway)))
    (lonlyway : K.lookup fonlyway = some ⟨oconlyway, odonlyway, .func (PySem.W.fnOf "only_way" "only_way" (defArgs sonlyway) (defBody sonlyway) (defScope sonlyway) .none kVonlyway dconlyway pmonlyway anonlyway cdonlyway ctonlyway), slonlyway⟩)
    (qonlyway : PySem.W.codeIn K cdonlyway "only_way" = true)
    (konlyway : PySem.W.keepIn K (.ref fonlyway) = true)
    (aSumInit : PySem.W.findIn K (.ref CSum) "__init__" = some (some (.ref fSumInit)))
    (iSumInit : PySem.W.isFn K (.ref fSumInit) = true)
    (lSumInit : K.lookup fSumInit = some ⟨ocSumInit, odSumInit, .func (PySem.W.fnOf "__init__" "Sum.__init__" (defArgs sSumInit) (defBody sSumInit) (defScope sSumInit) .none kVSumInit dcSumInit pmSumInit anSumInit cdSumInit ctSumInit), slSumInit⟩)
    (qSumInit : PySem.W.codeIn K cdSumInit "Sum.__init__" = true)
    (kSumInit : PySem.W.keepIn K (.ref fSumInit) = true)
    (aLeafInit : PySem.W.findIn K (.ref CLeaf) "__init__" = some (some (.ref fLeafInit)))
    (iLeafInit : PySem.W.isFn K (.ref fLeafInit) = true)
    (lLeafInit : K.lookup fLeafInit = some ⟨ocLeafInit, odLeafInit, .func (PySem.W.fnOf "__init__" "Leaf.__init__" (defArgs sLeafInit) (defBody sLeafInit) (defScope sLeafInit) .none kVLeafInit dcLeafInit pmLeafInit anLeafInit cdLeafInit ctLeafInit), slLeafInit⟩)
    (qLeafInit : PySem.W.codeIn K cdLeafInit "Leaf.__init__" = true)
    (kLeafInit : PySem.W.keepIn K (.ref fLeafInit) = true)
    (aTestInit : PySem.W.findIn K (.ref CTest) "__init__" = some (some (.ref fTestInit)))
    (iTestInit : PySem.W.isFn K (.ref fTestInit) = true)
    (lTestInit : K.lookup fTestInit = some ⟨ocTestInit, odTestInit, .func (PySem.W.fnOf "__init__" "Test.__init__" (defArgs sTestInit) (defBody sTestInit) (defScope sTestInit) .none kVTestInit dcTestInit pmTestInit anTestInit cdTestInit ctTestInit), slTestInit⟩)
    (qTestInit : PySem.W.codeIn K cdTestInit "Test.__init__" = true)
    (kTestInit : PySem.W.keepIn K (.ref fTestInit) = true)
    (aGrowerInit : PySem.W.findIn K (.ref CGrower) "__init__" = some (some (.ref fGrowerInit)))
    (iGrowerInit : PySem.W.isFn K (.ref fGrowerInit) = true)
    (lGrowerInit : K.lookup fGrowerInit = some ⟨ocGrowerInit, odGrowerInit, .func (PySem.W.fnOf "__init__" "Grower.__init__" (defArgs sGrowerInit) (defBody sGrowerInit) (defScope sGrowerInit) .none kVGrowerInit dcGrowerInit pmGrowerInit anGrowerInit cdGrowerInit ctGrowerInit), slGrowerInit⟩)
    (qGrowerInit : PySem.W.codeIn K cdGrowerInit "Grower.__init__" = true)
    (kGrowerInit : PySem.W.keepIn K (.ref fGrowerInit) = true)
    (aGrowerLeaf : PySem.W.findIn K (.ref CGrower) "leaf" = some (some (.ref fGrowerLeaf)))
    (iGrowerLeaf : PySem.W.isFn K (.ref fGrowerLeaf) = true)
    (lGrowerLeaf : K.lookup fGrowerLeaf = some ⟨ocGrowerLeaf, odGrowerLeaf, .func (PySem.W.fnOf "leaf" "Grower.leaf" (defArgs sGrowerLeaf) (defBody sGrowerLeaf) (defScope sGrowerLeaf) .none kVGrowerLeaf dcGrowerLeaf pmGrowerLeaf anGrowerLeaf cdGrowerLeaf ctGrowerLeaf), slGrowerLeaf⟩)
    (qGrowerLeaf : PySem.W.codeIn K cdGrowerLeaf "Grower.leaf" = true)
    (kGrowerLeaf : PySem.W.keepIn K (.ref fGrowerLeaf) = true)
    (aGrowerGrown : PySem.W.findIn K (.ref CGrower) "grown" = some (some (.ref fGrowerGrown)))
    (iGrowerGrown : PySem.W.isFn K (.ref fGrowerGrown) = true)
    (lGrowerGrown : K.lookup fGrowerGrown = some ⟨ocGrowerGrown, odGrowerGrown, .func (PySem.W.fnOf "grown" "Grower.grown" (defArgs sGrowerGrown) (defBody sGrowerGrown) (defScope sGrowerGrown) .none kVGrowerGrown dcGrowerGrown pmGrowerGrown anGrowerGrown cdGrowerGrown ctGrowerGrown), slGrowerGrown⟩)
    (qGrowerGrown : PySem.W.codeIn K cdGrowerGrown "Grower.grown" = true)
    (kGrowerGrown : PySem.W.keepIn K (.ref fGrowerGrown) = true)
    (aGrowerParted : PySem.W.findIn K (.ref CGrower) "parted" = some (some (.ref fGrowerParted)))
    (iGrowerParted : PySem.W.isFn K (.ref fGrowerParted) = true)
    (lGrowerParted : K.lookup fGrowerParted = some ⟨ocGrowerParted, odGrowerParted, .func (PySem.W.fnOf "parted" "Grower.parted" (defArgs sGrowerParted) (defBody sGrowerParted) (defScope sGrowerParted) .none kVGrowerParted dcGrowerParted pmGrowerParted anGrowerParted cdGrowerParted ctGrowerParted), slGrowerParted⟩)
    (qGrowerParted : PySem.W.codeIn K cdGrowerParted "Grower.parted" = true)
    (kGrowerParted : PySem.W.keepIn K (.ref fGrowerParted) = true)
    (atreeof : PySem.W.nsIn K mainGlobals "tree_of" = some (some (.ref ftreeof)))
    (ltreeof : K.lookup ftreeof = some ⟨octreeof, odtreeof, .func (PySem.W.fnOf "tree_of" "tree_of" (defArgs streeof) (defBody streeof) (defScope streeof) .none kVtreeof dctreeof pmtreeof antreeof cdtreeof cttreeof), sltreeof⟩)
    (qtreeof : PySem.W.codeIn K cdtreeof "tree_of" = true)
    (ktreeof : PySem.W.keepIn K (.ref ftreeof) = true)
    (aSumEq : PySem.W.findIn K (.ref CSum) "__eq__" = some (some (.ref fSumEq)))
    (iSumEq : PySem.W.isFn K (.ref fSumEq) = true)
    (lSumEq : K.lookup fSumEq = some ⟨ocSumEq, odSumEq, .func (PySem.W.fnOf "__eq__" "Sum.__eq__" (defArgs sSumEq) (defBody sSumEq) (defScope sSumEq) .none kVSumEq dcSumEq pmSumEq anSumEq cdSumEq ctSumEq), slSumEq⟩)
    (qSumEq : PySem.W.codeIn K cdSumEq "Sum.__eq__" = true)
    (kSumEq : PySem.W.keepIn K (.ref fSumEq) = true)
    (aLeafEq : PySem.W.findIn K (.ref CLeaf) "__eq__" = some (some (.ref fLeafEq)))
    (iLeafEq : PySem.W.isFn K (.ref fLeafEq) = true)
    (lLeafEq : K.lookup fLeafEq = some ⟨ocLeafEq, odLeafEq, .func (PySem.W.fnOf "__eq__" "Leaf.__eq__" (defArgs sLeafEq) (defBody sLeafEq) (defScope sLeafEq) .none kVLeafEq dcLeafEq pmLeafEq anLeafEq cdLeafEq ctLeafEq), slLeafEq⟩)
    (qLeafEq : PySem.W.codeIn K cdLeafEq "Leaf.__eq__" = true)
    (kLeafEq : PySem.W.keepIn K (.ref fLeafEq) = true)
    (aTestEq : PySem.W.findIn K (.ref CTest) "__eq__" = some (some (.ref fTestEq)))
    (iTestEq : PySem.W.isFn K (.ref fTestEq) = true)
    (lTestEq : K.lookup fTestEq = some ⟨ocTestEq, odTestEq, .func (PySem.W.fnOf "__eq__" "Test.__eq__" (defArgs sTestEq) (defBody sTestEq) (defScope sTestEq) .none kVTestEq dcTestEq pmTestEq anTestEq cdTestEq ctTestEq), slTestEq⟩)
    (qTestEq : PySem.W.codeIn K cdTestEq "Test.__eq__" = true)
    (kTestEq : PySem.W.keepIn K (.ref fTestEq) = true)
    (aLstate : PySem.W.nsIn K mainGlobals "_law_state" = some (some (.ref fLstate)))
    (lLstate : K.lookup fLstate = some ⟨ocLstate, odLstate, .func (PySem.W.fnOf "_law_state" "_law_state" (defArgs sLstate) (defBody sLstate) (defScope sLstate) .none kVLstate dcLstate pmLstate anLstate cdLstate ctLstate), slLstate⟩)
    (qLstate : PySem.W.codeIn K cdLstate "_law_state" = true)
    (kLstate : PySem.W.keepIn K (.ref fLstate) = true)
    (aLdigit : PySem.W.nsIn K mainGlobals "_law_digit" = some (some (.ref fLdigit)))
    (lLdigit : K.lookup fLdigit = some ⟨ocLdigit, odLdigit, .func (PySem.W.fnOf "_law_digit" "_law_digit" (defArgs sLdigit) (defBody sLdigit) (defScope sLdigit) .none kVLdigit dcLdigit pmLdigit anLdigit cdLdigit ctLdigit), slLdigit⟩)
    (qLdigit : PySem.W.codeIn K cdLdigit "_law_digit" = true)
    (kLdigit : PySem.W.keepIn K (.ref fLdigit) = true)
    (aLdeed : PySem.W.nsIn K mainGlobals "_law_deed" = some (some (.ref fLdeed)))
    (lLdeed : K.lookup fLdeed = some ⟨ocLdeed, odLdeed, .func (PySem.W.fnOf "_law_deed" "_law_deed" (defArgs sLdeed) (defBody sLdeed) (defScope sLdeed) .none kVLdeed dcLdeed pmLdeed anLdeed cdLdeed ctLdeed), slLdeed⟩)
    (qLdeed : PySem.W.codeIn K cdLdeed "_law_deed" = true)
    (kLdeed : PySem.W.keepIn K (.ref fLdeed) = true)
    (aLhouse : PySem.W.nsIn K mainGlobals "_law_house" = some (some (.ref fLhouse)))
    (lLhouse : K.lookup fLhouse = some ⟨ocLhouse, odLhouse, .func (PySem.W.fnOf "_law_house" "_law_house" (defArgs sLhouse) (defBody sLhouse) (defScope sLhouse) .none kVLhouse dcLhouse pmLhouse anLhouse cdLhouse ctLhouse), slLhouse⟩)
    (qLhouse : PySem.W.codeIn K cdLhouse "_law_house" = true)
    (kLhouse : PySem.W.keepIn K (.ref fLhouse) = true)
    (aLrow : PySem.W.nsIn K mainGlobals "_law_row" = some (some (.ref fLrow)))
    (lLrow : K.lookup fLrow = some ⟨ocLrow, odLrow, .func (PySem.W.fnOf "_law_row" "_law_row" (defArgs sLrow) (defBody sLrow) (defScope sLrow) .none kVLrow dcLrow pmLrow anLrow cdLrow ctLrow), slLrow⟩)
    (qLrow : PySem.W.codeIn K cdLrow "_law_row" = true)
    (kLrow : PySem.W.keepIn K (.ref fLrow) = true)
    (aLstarts : PySem.W.nsIn K mainGlobals "_law_starts" = some (some (.ref fLstarts)))
    (lLstarts : K.lookup fLstarts = some ⟨ocLstarts, odLstarts, .func (PySem.W.fnOf "_law_starts" "_law_starts" (defArgs sLstarts) (defBody sLstarts) (defScope sLstarts) .none kVLstarts dcLstarts pmLstarts anLstarts cdLstarts ctLstarts), slLstarts⟩)
    (qLstarts : PySem.W.codeIn K cdLstarts "_law_starts" = true)
    (kLstarts : PySem.W.keepIn K (.ref fLstarts) = true)
    (aLcometo : PySem.W.nsIn K mainGlobals "_law_come_to" = some (some (.ref fLcometo)))
    (lLcometo : K.lookup fLcometo = some ⟨ocLcometo, odLcometo, .func (PySem.W.fnOf "_law_come_to" "_law_come_to" (defArgs sLcometo) (defBody sLcometo) (defScope sLcometo) .none kVLcometo dcLcometo pmLcometo anLcometo cdLcometo ctLcometo), slLcometo⟩)
    (qLcometo : PySem.W.codeIn K cdLcometo "_law_come_to" = true)
    (kLcometo : PySem.W.keepIn K (.ref fLcometo) = true)
    (aLtest : PySem.W.nsIn K mainGlobals "_law_test" = some (some (.ref fLtest)))
    (lLtest : K.lookup fLtest = some ⟨ocLtest, odLtest, .func (PySem.W.fnOf "_law_test" "_law_test" (defArgs sLtest) (defBody sLtest) (defScope sLtest) .none kVLtest dcLtest pmLtest anLtest cdLtest ctLtest), slLtest⟩)
    (qLtest : PySem.W.codeIn K cdLtest "_law_test" = true)
    (kLtest : PySem.W.keepIn K (.ref fLtest) = true)
    (aLgone : PySem.W.nsIn K mainGlobals "_law_gone" = some (some (.ref fLgone)))
    (lLgone : K.lookup fLgone = some ⟨ocLgone, odLgone, .func (PySem.W.fnOf "_law_gone" "_law_gone" (defArgs sLgone) (defBody sLgone) (defScope sLgone) .none kVLgone dcLgone pmLgone anLgone cdLgone ctLgone), slLgone⟩)
    (qLgone : PySem.W.codeIn K cdLgone "_law_gone" = true)
    (kLgone : PySem.W.keepIn K (.ref fLgone) = true)
    (aLgrown : PySem.W.nsIn K mainGlobals "_law_grown" = some (some (.ref fLgrown)))
    (lLgrown : K.lookup fLgrown = some ⟨ocLgrown, odLgrown, .func (PySem.W.fnOf "_law_grown" "_law_grown" (defArgs sLgrown) (defBody sLgrown) (defScope sLgrown) .none kVLgrown dcLgrown pmLgrown anLgrown cdLgrown ctLgrown), slLgrown⟩)
    (qLgrown : PySem.W.codeIn K cdLgrown "_law_grown" = true)
    (kLgrown : PySem.W.keepIn K (.ref fLgrown) = true)
    (aLtold : PySem.W.nsIn K mainGlobals "_law_told" = some (some (.ref fLtold)))
    (lLtold : K.lookup fLtold = some ⟨ocLtold, odLtold, .func (PySem.W.fnOf "_law_told" "_law_told" (defArgs sLtold) (defBody sLtold) (defScope sLtold) .none kVLtold dcLtold pmLtold anLtold cdLtold ctLtold), slLtold⟩)
    (qLtold : PySem.W.codeIn K cdLtold "_law_told" = true)
    (kLtold : PySem.W.keepIn K (.ref fLtold) = true)
    (alaw : PySem.W.nsIn K mainGlobals "law" = some (some (.ref flaw)))
    (llaw : K.lookup flaw = some ⟨oclaw, odlaw, .func (PySem.W.fnOf "law" "law" (defArgs slaw) (defBody slaw) (defScope slaw) .none kVlaw dclaw pmlaw anlaw cdlaw ctlaw), sllaw⟩)
    (qlaw : PySem.W.codeIn K cdlaw "law" = true)
    (klaw : PySem.W.keepIn K (.ref flaw) = true)
    (pgJars : PySem.W.plainGet K CJars Str.empty = true)
    (hdJars : PySem.W.hasDictIn K CJars = true)
    (poJars : PySem.W.plainOver K CJars = true)
    (saJars : PySem.W.findIn K (.ref CJars) "__setattr__" = some (some (.builtin "object.__setattr__")))
    (mkJars : PySem.W.makesIn K CJars = true)
    (kcJars : PySem.W.keepIn K (.ref CJars) = true)
    (nJars_sizes : PySem.W.findIn K (.ref CJars) "sizes" = some none)
    (pgPour : PySem.W.plainGet K CPour Str.empty = true)
    (hdPour : PySem.W.hasDictIn K CPour = true)
    (poPour : PySem.W.plainOver K CPour = true)
    (saPour : PySem.W.findIn K (.ref CPour) "__setattr__" = some (some (.builtin "object.__setattr__")))
    (mkPour : PySem.W.makesIn K CPour = true)
    (kcPour : PySem.W.keepIn K (.ref CPour) = true)
    (nPour_a : PySem.W.findIn K (.ref CPour) "a" = some none)
    (nPour_b : PySem.W.findIn K (.ref CPour) "b" = some none)
    (pgPut : PySem.W.plainGet K CPut Str.empty = true)
    (hdPut : PySem.W.hasDictIn K CPut = true)
    (poPut : PySem.W.plainOver K CPut = true)
    (saPut : PySem.W.findIn K (.ref CPut) "__setattr__" = some (some (.builtin "object.__setattr__")))
    (mkPut : PySem.W.makesIn K CPut = true)
    (kcPut : PySem.W.keepIn K (.ref CPut) = true)
    (nPut_a : PySem.W.findIn K (.ref CPut) "a" = some none)
    (nPut_k : PySem.W.findIn K (.ref CPut) "k" = some none)
    (pgDraw : PySem.W.plainGet K CDraw Str.empty = true)
    (hdDraw : PySem.W.hasDictIn K CDraw = true)
    (poDraw : PySem.W.plainOver K CDraw = true)
    (saDraw : PySem.W.findIn K (.ref CDraw) "__setattr__" = some (some (.builtin "object.__setattr__")))
    (mkDraw : PySem.W.makesIn K CDraw = true)
    (kcDraw : PySem.W.keepIn K (.ref CDraw) = true)
    (nDraw_a : PySem.W.findIn K (.ref CDraw) "a" = some none)
    (nDraw_k : PySem.W.findIn K (.ref CDraw) "k" = some none)
    (pgChange : PySem.W.plainGet K CChange Str.empty = true)
    (hdChange : PySem.W.hasDictIn K CChange = true)
    (poChange : PySem.W.plainOver K CChange = true)
    (saChange : PySem.W.findIn K (.ref CChange) "__setattr__" = some (some (.builtin "object.__setattr__")))
    (mkChange : PySem.W.makesIn K CChange = true)
    (kcChange : PySem.W.keepIn K (.ref CChange) = true)
    (nChange_a : PySem.W.findIn K (.ref CChange) "a" = some none)
    (nChange_b : PySem.W.findIn K (.ref CChange) "b" = some none)
    (pgRow : PySem.W.plainGet K CRow Str.empty = true)
    (hdRow : PySem.W.hasDictIn K CRow = true)
    (poRow : PySem.W.plainOver K CRow = true)
    (saRow : PySem.W.findIn K (.ref CRow) "__setattr__" = some (some (.builtin "object.__setattr__")))
    (mkRow : PySem.W.makesIn K CRow = true)
    (kcRow : PySem.W.keepIn K (.ref CRow) = true)
    (nRow_jars : PySem.W.findIn K (.ref CRow) "jars" = some none)
    (nRow_deeds : PySem.W.findIn K (.ref CRow) "deeds" = some none)
    (pgShare : PySem.W.plainGet K CShare Str.empty = true)
    (hdShare : PySem.W.hasDictIn K CShare = true)
    (poShare : PySem.W.plainOver K CShare = true)
    (saShare : PySem.W.findIn K (.ref CShare) "__setattr__" = some (some (.builtin "object.__setattr__")))
    (mkShare : PySem.W.makesIn K CShare = true)
    (kcShare : PySem.W.keepIn K (.ref CShare) = true)
    (nShare_group : PySem.W.findIn K (.ref CShare) "group" = some none)
    (nShare_more : PySem.W.findIn K (.ref CShare) "more" = some none)
    (nShare_low : PySem.W.findIn K (.ref CShare) "low" = some none)
    (nShare_high : PySem.W.findIn K (.ref CShare) "high" = some none)
    (pgSum : PySem.W.plainGet K CSum Str.empty = true)
    (hdSum : PySem.W.hasDictIn K CSum = true)
    (poSum : PySem.W.plainOver K CSum = true)
    (saSum : PySem.W.findIn K (.ref CSum) "__setattr__" = some (some (.builtin "object.__setattr__")))
    (mkSum : PySem.W.makesIn K CSum = true)
    (kcSum : PySem.W.keepIn K (.ref CSum) = true)
    (nSum_group : PySem.W.findIn K (.ref CSum) "group" = some none)
    (nSum_more : PySem.W.findIn K (.ref CSum) "more" = some none)
    (pgLeaf : PySem.W.plainGet K CLeaf Str.empty = true)
    (hdLeaf : PySem.W.hasDictIn K CLeaf = true)
    (poLeaf : PySem.W.plainOver K CLeaf = true)
    (saLeaf : PySem.W.findIn K (.ref CLeaf) "__setattr__" = some (some (.builtin "object.__setattr__")))
    (mkLeaf : PySem.W.makesIn K CLeaf = true)
    (kcLeaf : PySem.W.keepIn K (.ref CLeaf) = true)
    (nLeaf_sums : PySem.W.findIn K (.ref CLeaf) "sums" = some none)
    (pgTest : PySem.W.plainGet K CTest Str.empty = true)
    (hdTest : PySem.W.hasDictIn K CTest = true)
    (poTest : PySem.W.plainOver K CTest = true)
    (saTest : PySem.W.findIn K (.ref CTest) "__setattr__" = some (some (.builtin "object.__setattr__")))
    (mkTest : PySem.W.makesIn K CTest = true)
    (kcTest : PySem.W.keepIn K (.ref CTest) = true)
    (nTest_deed : PySem.W.findIn K (.ref CTest) "deed" = some none)
    (nTest_group : PySem.W.findIn K (.ref CTest) "group" = some none)
    (nTest_limit : PySem.W.findIn K (.ref CTest) "limit" = some none)
    (nTest_first : PySem.W.findIn K (.ref CTest) "first" = some none)
    (nTest_second : PySem.W.findIn K (.ref CTest) "second" = some none)
    (pgGrower : PySem.W.plainGet K CGrower Str.empty = true)
    (hdGrower : PySem.W.hasDictIn K CGrower = true)
    (poGrower : PySem.W.plainOver K CGrower = true)
    (saGrower : PySem.W.findIn K (.ref CGrower) "__setattr__" = some (some (.builtin "object.__setattr__")))
    (mkGrower : PySem.W.makesIn K CGrower = true)
    (kcGrower : PySem.W.keepIn K (.ref CGrower) = true)
    (nGrower_jars : PySem.W.findIn K (.ref CGrower) "jars" = some none)
    (nGrower_deeds : PySem.W.findIn K (.ref CGrower) "deeds" = some none)
    (nGrower_leaves : PySem.W.findIn K (.ref CGrower) "leaves" = some none)
    (pgTree : PySem.W.plainGet K CTree Str.empty = true)
    (hdTree : PySem.W.hasDictIn K CTree = true)
    (poTree : PySem.W.plainOver K CTree = true)
    (saTree : PySem.W.findIn K (.ref CTree) "__setattr__" = some (some (.builtin "object.__setattr__")))
    (yaChange : PySem.W.findIn K (.ref CChange) "__class__" = some (some (.builtin "object.__class__")))
    (ymChange : PySem.W.mroIn K CChange (.type "object") = some true)
    (yaDraw : PySem.W.findIn K (.ref CDraw) "__class__" = some (some (.builtin "object.__class__")))
    (ymDraw : PySem.W.mroIn K CDraw (.type "object") = some true)
    (yaLeaf : PySem.W.findIn K (.ref CLeaf) "__class__" = some (some (.builtin "object.__class__")))
    (ymLeaf : PySem.W.mroIn K CLeaf (.type "object") = some true)
    (yaPour : PySem.W.findIn K (.ref CPour) "__class__" = some (some (.builtin "object.__class__")))
    (ymPour : PySem.W.mroIn K CPour (.type "object") = some true)
    (yaPut : PySem.W.findIn K (.ref CPut) "__class__" = some (some (.builtin "object.__class__")))
    (ymPut : PySem.W.mroIn K CPut (.type "object") = some true)
    (yaSum : PySem.W.findIn K (.ref CSum) "__class__" = some (some (.builtin "object.__class__")))
    (ymSum : PySem.W.mroIn K CSum (.type "object") = some true)
    (yaTest : PySem.W.findIn K (.ref CTest) "__class__" = some (some (.builtin "object.__class__")))
    (ymTest : PySem.W.mroIn K CTest (.type "object") = some true)
    (yn : PySem.W.specialIn K (.builtin "object.__class__") "__get__" = some (some (.builtin "getset_descriptor.__get__")))
    (yt : PySem.W.takesIn K (.builtin "object.__class__") = some true)
    (isPour_Put : PySem.W.kitOne K (.ref CPour) (.ref CPut) = some false)
    (isPour_Draw : PySem.W.kitOne K (.ref CPour) (.ref CDraw) = some false)
    (isPour_Pour : PySem.W.kitOne K (.ref CPour) (.ref CPour) = some true)
    (isPour_Change : PySem.W.kitOne K (.ref CPour) (.ref CChange) = some false)
    (isPut_Put : PySem.W.kitOne K (.ref CPut) (.ref CPut) = some true)
    (isPut_Draw : PySem.W.kitOne K (.ref CPut) (.ref CDraw) = some false)
    (isPut_Pour : PySem.W.kitOne K (.ref CPut) (.ref CPour) = some false)
    (isPut_Change : PySem.W.kitOne K (.ref CPut) (.ref CChange) = some false)
    (isDraw_Put : PySem.W.kitOne K (.ref CDraw) (.ref CPut) = some false)
    (isDraw_Draw : PySem.W.kitOne K (.ref CDraw) (.ref CDraw) = some true)
    (isDraw_Pour : PySem.W.kitOne K (.ref CDraw) (.ref CPour) = some false)
    (isDraw_Change : PySem.W.kitOne K (.ref CDraw) (.ref CChange) = some false)
    (isChange_Put : PySem.W.kitOne K (.ref CChange) (.ref CPut) = some false)
    (isChange_Draw : PySem.W.kitOne K (.ref CChange) (.ref CDraw) = some false)
    (isChange_Pour : PySem.W.kitOne K (.ref CChange) (.ref CPour) = some false)
    (isChange_Change : PySem.W.kitOne K (.ref CChange) (.ref CChange) = some true)
    (isLeaf_Leaf : PySem.W.kitOne K (.ref CLeaf) (.ref CLeaf) = some true)
    (isTest_Leaf : PySem.W.kitOne K (.ref CTest) (.ref CLeaf) = some false)
    (isSum_Sum : PySem.W.kitOne K (.ref CSum) (.ref CSum) = some true)
    (isLeaf_Test : PySem.W.kitOne K (.ref CLeaf) (.ref CTest) = some false)
    (isLeaf_Tree : PySem.W.kitOne K (.ref CLeaf) (.ref CTree) = some true)
    (isTest_Test : PySem.W.kitOne K (.ref CTest) (.ref CTest) = some true)
    (isTest_Tree : PySem.W.kitOne K (.ref CTest) (.ref CTree) = some true)
    (neMLeaf : PySem.W.findIn K (.ref CLeaf) "__ne__" = some (some (.builtin "object.__ne__")))
    (neMTest : PySem.W.findIn K (.ref CTest) "__ne__" = some (some (.builtin "object.__ne__")))
    (nfLeaf_Test : PySem.W.notFirst K CLeaf (.ref CTest) = true)
    (nfTest_Leaf : PySem.W.notFirst K CTest (.ref CLeaf) = true)
    (tyWide : PySem.W.typeIn K (.ref fWideInit) = some (.type "function"))
    (oxWide : K.lookup CWide = some (PySem.excClassObj nmXWide qXWide CWide NXWide bsXWide bmXWide true snXWide subXWide abXWide colXWide ddXWide r0XWide r1XWide r2XWide r3XWide r5XWide "ValueError.__new__"))
    (orWide : PySem.HandSPX.refsVE bmXWide = true)
    (osWide : PySem.W.findIn K (.ref CWide) "__setattr__" = some (some (.builtin "object.__setattr__")))
    (obWide : PySem.W.subIn K (.ref CWide) (.type "BaseException") = some true)
    (otWide : PySem.W.typeIn K (.ref CWide) = some (.type "type"))
    (okWide : PySem.W.keepIn K (.ref CWide) = true)
    (xgWide : PySem.W.findIn K (.ref CWide) "__getattribute__" = some (some (.builtin "BaseException.__getattribute__")))
    (xnWide : PySem.W.findIn K (.ref CWide) "__getattr__" = some none)
    (xdWide : PySem.W.hasDictIn K CWide = true)
    (nWide_count : PySem.W.findIn K (.ref CWide) "count" = some none)
    (euWide_Wide : PySem.W.subIn K (.ref CWide) (.ref CWide) = some true)
    (gMOSTJARS : PySem.W.nsIn K mainGlobals "MOST_JARS" = some (some (.int 6 tkMOSTJARS)))
    (gMOSTDEEDS : PySem.W.nsIn K mainGlobals "MOST_DEEDS" = some (some (.int 20 tkMOSTDEEDS)))
    (gMOSTMUCH : PySem.W.nsIn K mainGlobals "MOST_MUCH" = some (some (.int 1000000000000 tkMOSTMUCH)))
    (gMOSTLEAVES : PySem.W.nsIn K mainGlobals "MOST_LEAVES" = some (some (.int 24 tkMOSTLEAVES)))
    (zabs : PySem.W.nsIn K mainGlobals "abs" = some none)
    (zenumerate : PySem.W.nsIn K mainGlobals "enumerate" = some none)
    (zint : PySem.W.nsIn K mainGlobals "int" = some none)
    (zisinstance : PySem.W.nsIn K mainGlobals "isinstance" = some none)
    (zlen : PySem.W.nsIn K mainGlobals "len" = some none)
    (zlist : PySem.W.nsIn K mainGlobals "list" = some none)
    (zmax : PySem.W.nsIn K mainGlobals "max" = some none)
    (zmin : PySem.W.nsIn K mainGlobals "min" = some none)
    (zrange : PySem.W.nsIn K mainGlobals "range" = some none)
    (zsorted : PySem.W.nsIn K mainGlobals "sorted" = some none)
    (zsum : PySem.W.nsIn K mainGlobals "sum" = some none)
    (ztuple : PySem.W.nsIn K mainGlobals "tuple" = some none) :
    ∃ fd : FuncData, (∀ (s : Shared) (v : Value), BindsTo s fd ⟨[v], []⟩ [("_law_script", v)]) ∧ ∀ base : Heap, K.In base → base.Ns mainGlobals mg → FnOk l.prog w K mg base CX0 64 fa fd ["_law_script"] (spLaw K) := by
  have e := hfa.symm.trans (PySem.W.mg_of X G alaw)
  cases e
  exact ⟨PySem.W.fnOf "law" "law" (defArgs slaw) (defBody slaw) (defScope slaw) .none kVlaw dclaw pmlaw anlaw cdlaw ctlaw, fun s v => .of_eq rfl, fun base _ _ => oklaw {
    cJars := CJars
    mJars := PySem.W.mg_of X G xJars
    cPour := CPour
    mPour := PySem.W.mg_of X G xPour
    cPut := CPut
    mPut := PySem.W.mg_of X G xPut
    cDraw := CDraw
    mDraw := PySem.W.mg_of X G xDraw
    cChange := CChange
    mChange := PySem.W.mg_of X G xChange
    cRow := CRow
    mRow := PySem.W.mg_of X G xRow
    cShare := CShare
    mShare := PySem.W.mg_of X G xShare
    cSum := CSum
    mSum := PySem.W.mg_of X G xSum
    cLeaf := CLeaf
    mLeaf := PySem.W.mg_of X G xLeaf
    cTest := CTest
    mTest := PySem.W.mg_of X G xTest
    cGrower := CGrower
    mGrower := PySem.W.mg_of X G xGrower
    cTree := CTree
    mTree := PySem.W.mg_of X G xTree
    cWide := CWide
    mWide := PySem.W.mg_of X G xWide
    gcheckmuch := PySem.W.mg_of X G acheckmuch
    acheckmuch := fcheckmuch
    dcheckmuch := PySem.W.fnOf "check_much" "check_much" (defArgs scheckmuch) (defBody scheckmuch) (defScope scheckmuch) .none kVcheckmuch dccheckmuch pmcheckmuch ancheckmuch cdcheckmuch ctcheckmuch
    fcheckmuch := fun_mk (st := scheckmuch) lcheckmuch qcheckmuch kcheckmuch
    bcheckmuch := (fun_mk (st := scheckmuch) lcheckmuch qcheckmuch kcheckmuch).binds (ps := ["what", "much"]) fun _ _ _ _ _ _ us hl => match us, hl with | [_, _], _ => rfl
    gcheckjar := PySem.W.mg_of X G acheckjar
    acheckjar := fcheckjar
    dcheckjar := PySem.W.fnOf "check_jar" "check_jar" (defArgs scheckjar) (defBody scheckjar) (defScope scheckjar) .none kVcheckjar dccheckjar pmcheckjar ancheckjar cdcheckjar ctcheckjar
    fcheckjar := fun_mk (st := scheckjar) lcheckjar qcheckjar kcheckjar
    bcheckjar := (fun_mk (st := scheckjar) lcheckjar qcheckjar kcheckjar).binds (ps := ["jars", "jar"]) fun _ _ _ _ _ _ us hl => match us, hl with | [_, _], _ => rfl
    gcheckdeed := PySem.W.mg_of X G acheckdeed
    acheckdeed := fcheckdeed
    dcheckdeed := PySem.W.fnOf "check_deed" "check_deed" (defArgs scheckdeed) (defBody scheckdeed) (defScope scheckdeed) .none kVcheckdeed dccheckdeed pmcheckdeed ancheckdeed cdcheckdeed ctcheckdeed
    fcheckdeed := fun_mk (st := scheckdeed) lcheckdeed qcheckdeed kcheckdeed
    bcheckdeed := (fun_mk (st := scheckdeed) lcheckdeed qcheckdeed kcheckdeed).binds (ps := ["jars", "deed"]) fun _ _ _ _ _ _ us hl => match us, hl with | [_, _], _ => rfl
    aJarsInit := fJarsInit
    dJarsInit := PySem.W.fnOf "__init__" "Jars.__init__" (defArgs sJarsInit) (defBody sJarsInit) (defScope sJarsInit) .none kVJarsInit dcJarsInit pmJarsInit anJarsInit cdJarsInit ctJarsInit
    fJarsInit := fun_mk (st := sJarsInit) lJarsInit qJarsInit kJarsInit
    bJarsInit := (fun_mk (st := sJarsInit) lJarsInit qJarsInit kJarsInit).binds (ps := ["self", "sizes"]) fun _ _ _ _ _ _ us hl => match us, hl with | [_, _], _ => rfl
    aPourInit := fPourInit
    dPourInit := PySem.W.fnOf "__init__" "Pour.__init__" (defArgs sPourInit) (defBody sPourInit) (defScope sPourInit) .none kVPourInit dcPourInit pmPourInit anPourInit cdPourInit ctPourInit
    fPourInit := fun_mk (st := sPourInit) lPourInit qPourInit kPourInit
    bPourInit := (fun_mk (st := sPourInit) lPourInit qPourInit kPourInit).binds (ps := ["self", "a", "b"]) fun _ _ _ _ _ _ us hl => match us, hl with | [_, _, _], _ => rfl
    aPutInit := fPutInit
    dPutInit := PySem.W.fnOf "__init__" "Put.__init__" (defArgs sPutInit) (defBody sPutInit) (defScope sPutInit) .none kVPutInit dcPutInit pmPutInit anPutInit cdPutInit ctPutInit
    fPutInit := fun_mk (st := sPutInit) lPutInit qPutInit kPutInit
    bPutInit := (fun_mk (st := sPutInit) lPutInit qPutInit kPutInit).binds (ps := ["self", "a", "k"]) fun _ _ _ _ _ _ us hl => match us, hl with | [_, _, _], _ => rfl
    aDrawInit := fDrawInit
    dDrawInit := PySem.W.fnOf "__init__" "Draw.__init__" (defArgs sDrawInit) (defBody sDrawInit) (defScope sDrawInit) .none kVDrawInit dcDrawInit pmDrawInit anDrawInit cdDrawInit ctDrawInit
    fDrawInit := fun_mk (st := sDrawInit) lDrawInit qDrawInit kDrawInit
    bDrawInit := (fun_mk (st := sDrawInit) lDrawInit qDrawInit kDrawInit).binds (ps := ["self", "a", "k"]) fun _ _ _ _ _ _ us hl => match us, hl with | [_, _, _], _ => rfl
    aChangeInit := fChangeInit
    dChangeInit := PySem.W.fnOf "__init__" "Change.__init__" (defArgs sChangeInit) (defBody sChangeInit) (defScope sChangeInit) .none kVChangeInit dcChangeInit pmChangeInit anChangeInit cdChangeInit ctChangeInit
    fChangeInit := fun_mk (st := sChangeInit) lChangeInit qChangeInit kChangeInit
    bChangeInit := (fun_mk (st := sChangeInit) lChangeInit qChangeInit kChangeInit).binds (ps := ["self", "a", "b"]) fun _ _ _ _ _ _ us hl => match us, hl with | [_, _, _], _ => rfl
    aRowInit := fRowInit
    dRowInit := PySem.W.fnOf "__init__" "Row.__init__" (defArgs sRowInit) (defBody sRowInit) (defScope sRowInit) .none kVRowInit dcRowInit pmRowInit anRowInit cdRowInit ctRowInit
    fRowInit := fun_mk (st := sRowInit) lRowInit qRowInit kRowInit
    bRowInit := (fun_mk (st := sRowInit) lRowInit qRowInit kRowInit).binds (ps := ["self", "jars", "deeds"]) fun _ _ _ _ _ _ us hl => match us, hl with | [_, _, _], _ => rfl
    aWideInit := fWideInit
    dWideInit := PySem.W.fnOf "__init__" "Wide.__init__" (defArgs sWideInit) (defBody sWideInit) (defScope sWideInit) .none kVWideInit dcWideInit pmWideInit anWideInit cdWideInit ctWideInit
    fWideInit := fun_mk (st := sWideInit) lWideInit qWideInit kWideInit
    bWideInit := (fun_mk (st := sWideInit) lWideInit qWideInit kWideInit).binds (ps := ["self", "count"]) fun _ _ _ _ _ _ us hl => match us, hl with | [_, _], _ => rfl
    aShareInit := fShareInit
    dShareInit := PySem.W.fnOf "__init__" "Share.__init__" (defArgs sShareInit) (defBody sShareInit) (defScope sShareInit) .none kVShareInit dcShareInit pmShareInit anShareInit cdShareInit ctShareInit
    fShareInit := fun_mk (st := sShareInit) lShareInit qShareInit kShareInit
    bShareInit := (fun_mk (st := sShareInit) lShareInit qShareInit kShareInit).binds (ps := ["self", "group", "more", "low", "high"]) fun _ _ _ _ _ _ us hl => match us, hl with | [_, _, _, _, _], _ => rfl
    gfirstshares := PySem.W.mg_of X G afirstshares
    afirstshares := ffirstshares
    dfirstshares := PySem.W.fnOf "first_shares" "first_shares" (defArgs sfirstshares) (defBody sfirstshares) (defScope sfirstshares) .none kVfirstshares dcfirstshares pmfirstshares anfirstshares cdfirstshares ctfirstshares
    ffirstshares := fun_mk (st := sfirstshares) lfirstshares qfirstshares kfirstshares
    bfirstshares := (fun_mk (st := sfirstshares) lfirstshares qfirstshares kfirstshares).binds (ps := ["jars"]) fun _ _ _ _ _ _ us hl => match us, hl with | [_], _ => rfl
    gofnojar := PySem.W.mg_of X G aofnojar
    aofnojar := fofnojar
    dofnojar := PySem.W.fnOf "of_no_jar" "of_no_jar" (defArgs sofnojar) (defBody sofnojar) (defScope sofnojar) .none kVofnojar dcofnojar pmofnojar anofnojar cdofnojar ctofnojar
    fofnojar := fun_mk (st := sofnojar) lofnojar qofnojar kofnojar
    bofnojar := (fun_mk (st := sofnojar) lofnojar qofnojar kofnojar).binds (ps := ["more"]) fun _ _ _ _ _ _ us hl => match us, hl with | [_], _ => rfl
    gtogether := PySem.W.mg_of X G atogether
    atogether := ftogether
    dtogether := PySem.W.fnOf "together" "together" (defArgs stogether) (defBody stogether) (defScope stogether) .none kVtogether dctogether pmtogether antogether cdtogether cttogether
    ftogether := fun_mk (st := stogether) ltogether qtogether ktogether
    btogether := (fun_mk (st := stogether) ltogether qtogether ktogether).binds (ps := ["share", "other"]) fun _ _ _ _ _ _ us hl => match us, hl with | [_, _], _ => rfl
    gatmost := PySem.W.mg_of X G aatmost
    aatmost := fatmost
    datmost := PySem.W.fnOf "at_most" "at_most" (defArgs satmost) (defBody satmost) (defScope satmost) .none kVatmost dcatmost pmatmost anatmost cdatmost ctatmost
    fatmost := fun_mk (st := satmost) latmost qatmost katmost
    batmost := (fun_mk (st := satmost) latmost qatmost katmost).binds (ps := ["share", "limit", "added"]) fun _ _ _ _ _ _ us hl => match us, hl with | [_, _, _], _ => rfl
    gatleast := PySem.W.mg_of X G aatleast
    aatleast := fatleast
    datleast := PySem.W.fnOf "at_least" "at_least" (defArgs satleast) (defBody satleast) (defScope satleast) .none kVatleast dcatleast pmatleast anatleast cdatleast ctatleast
    fatleast := fun_mk (st := satleast) latleast qatleast katleast
    batleast := (fun_mk (st := satleast) latleast qatleast katleast).binds (ps := ["share", "limit", "added"]) fun _ _ _ _ _ _ us hl => match us, hl with | [_, _, _], _ => rfl
    gtested := PySem.W.mg_of X G atested
    atested := ftested
    dtested := PySem.W.fnOf "tested" "tested" (defArgs stested) (defBody stested) (defScope stested) .none kVtested dctested pmtested antested cdtested cttested
    ftested := fun_mk (st := stested) ltested qtested ktested
    btested := (fun_mk (st := stested) ltested qtested ktested).binds (ps := ["deed", "shares"]) fun _ _ _ _ _ _ us hl => match us, hl with | [_, _], _ => rfl
    glimitof := PySem.W.mg_of X G alimitof
    alimitof := flimitof
    dlimitof := PySem.W.fnOf "limit_of" "limit_of" (defArgs slimitof) (defBody slimitof) (defScope slimitof) .none kVlimitof dclimitof pmlimitof anlimitof cdlimitof ctlimitof
    flimitof := fun_mk (st := slimitof) llimitof qlimitof klimitof
    blimitof := (fun_mk (st := slimitof) llimitof qlimitof klimitof).binds (ps := ["jars", "deed", "shares"]) fun _ _ _ _ _ _ us hl => match us, hl with | [_, _, _], _ => rfl
    gfirstway := PySem.W.mg_of X G afirstway
    afirstway := ffirstway
    dfirstway := PySem.W.fnOf "first_way" "first_way" (defArgs sfirstway) (defBody sfirstway) (defScope sfirstway) .none kVfirstway dcfirstway pmfirstway anfirstway cdfirstway ctfirstway
    ffirstway := fun_mk (st := sfirstway) lfirstway qfirstway kfirstway
    bfirstway := (fun_mk (st := sfirstway) lfirstway qfirstway kfirstway).binds (ps := ["jars", "deed", "shares"]) fun _ _ _ _ _ _ us hl => match us, hl with | [_, _, _], _ => rfl
    gsecondway := PySem.W.mg_of X G asecondway
    asecondway := fsecondway
    dsecondway := PySem.W.fnOf "second_way" "second_way" (defArgs ssecondway) (defBody ssecondway) (defScope ssecondway) .none kVsecondway dcsecondway pmsecondway ansecondway cdsecondway ctsecondway
    fsecondway := fun_mk (st := ssecondway) lsecondway qsecondway ksecondway
    bsecondway := (fun_mk (st := ssecondway) lsecondway qsecondway ksecondway).binds (ps := ["jars", "deed", "shares"]) fun _ _ _ _ _ _ us hl => match us, hl with | [_, _, _], _ => rfl
    gischoice := PySem.W.mg_of X G aischoice
    aischoice := fischoice
    dischoice := PySem.W.fnOf "is_choice" "is_choice" (defArgs sischoice) (defBody sischoice) (defScope sischoice) .none kVischoice dcischoice pmischoice anischoice cdischoice ctischoice
    fischoice := fun_mk (st := sischoice) lischoice qischoice kischoice
    bischoice := (fun_mk (st := sischoice) lischoice qischoice kischoice).binds (ps := ["jars", "deed", "shares"]) fun _ _ _ _ _ _ us hl => match us, hl with | [_, _, _], _ => rfl
    gonlyway := PySem.W.mg_of X G aonlyway
    aonlyway := fonlyway
    donlyway := PySem.W.fnOf "only_way" "only_way" (defArgs sonlyway) (defBody sonlyway) (defScope sonlyway) .none kVonlyway dconlyway pmonlyway anonlyway cdonlyway ctonlyway
    fonlyway := fun_mk (st := sonlyway) lonlyway qonlyway konlyway
    bonlyway := (fun_mk (st := sonlyway) lonlyway qonlyway konlyway).binds (ps := ["jars", "deed", "shares"]) fun _ _ _ _ _ _ us hl => match us, hl with | [_, _, _], _ => rfl
    aSumInit := fSumInit
    dSumInit := PySem.W.fnOf "__init__" "Sum.__init__" (defArgs sSumInit) (defBody sSumInit) (defScope sSumInit) .none kVSumInit dcSumInit pmSumInit anSumInit cdSumInit ctSumInit
    fSumInit := fun_mk (st := sSumInit) lSumInit qSumInit kSumInit
    bSumInit := (fun_mk (st := sSumInit) lSumInit qSumInit kSumInit).binds (ps := ["self", "group", "more"]) fun _ _ _ _ _ _ us hl => match us, hl with | [_, _, _], _ => rfl
    aLeafInit := fLeafInit
    dLeafInit := PySem.W.fnOf "__init__" "Leaf.__init__" (defArgs sLeafInit) (defBody sLeafInit) (defScope sLeafInit) .none kVLeafInit dcLeafInit pmLeafInit anLeafInit cdLeafInit ctLeafInit
    fLeafInit := fun_mk (st := sLeafInit) lLeafInit qLeafInit kLeafInit
    bLeafInit := (fun_mk (st := sLeafInit) lLeafInit qLeafInit kLeafInit).binds (ps := ["self", "sums"]) fun _ _ _ _ _ _ us hl => match us, hl with | [_, _], _ => rfl
    aTestInit := fTestInit
    dTestInit := PySem.W.fnOf "__init__" "Test.__init__" (defArgs sTestInit) (defBody sTestInit) (defScope sTestInit) .none kVTestInit dcTestInit pmTestInit anTestInit cdTestInit ctTestInit
    fTestInit := fun_mk (st := sTestInit) lTestInit qTestInit kTestInit
    bTestInit := (fun_mk (st := sTestInit) lTestInit qTestInit kTestInit).binds (ps := ["self", "deed", "group", "limit", "first", "second"]) fun _ _ _ _ _ _ us hl => match us, hl with | [_, _, _, _, _, _], _ => rfl
    aGrowerInit := fGrowerInit
    dGrowerInit := PySem.W.fnOf "__init__" "Grower.__init__" (defArgs sGrowerInit) (defBody sGrowerInit) (defScope sGrowerInit) .none kVGrowerInit dcGrowerInit pmGrowerInit anGrowerInit cdGrowerInit ctGrowerInit
    fGrowerInit := fun_mk (st := sGrowerInit) lGrowerInit qGrowerInit kGrowerInit
    bGrowerInit := (fun_mk (st := sGrowerInit) lGrowerInit qGrowerInit kGrowerInit).binds (ps := ["self", "row"]) fun _ _ _ _ _ _ us hl => match us, hl with | [_, _], _ => rfl
    meGrowerLeaf := ⟨aGrowerLeaf, iGrowerLeaf, kGrowerLeaf⟩
    aGrowerLeaf := fGrowerLeaf
    dGrowerLeaf := PySem.W.fnOf "leaf" "Grower.leaf" (defArgs sGrowerLeaf) (defBody sGrowerLeaf) (defScope sGrowerLeaf) .none kVGrowerLeaf dcGrowerLeaf pmGrowerLeaf anGrowerLeaf cdGrowerLeaf ctGrowerLeaf
    fGrowerLeaf := fun_mk (st := sGrowerLeaf) lGrowerLeaf qGrowerLeaf kGrowerLeaf
    bGrowerLeaf := (fun_mk (st := sGrowerLeaf) lGrowerLeaf qGrowerLeaf kGrowerLeaf).binds (ps := ["self", "shares"]) fun _ _ _ _ _ _ us hl => match us, hl with | [_, _], _ => rfl
    meGrowerGrown := ⟨aGrowerGrown, iGrowerGrown, kGrowerGrown⟩
    aGrowerGrown := fGrowerGrown
    dGrowerGrown := PySem.W.fnOf "grown" "Grower.grown" (defArgs sGrowerGrown) (defBody sGrowerGrown) (defScope sGrowerGrown) .none kVGrowerGrown dcGrowerGrown pmGrowerGrown anGrowerGrown cdGrowerGrown ctGrowerGrown
    fGrowerGrown := fun_mk (st := sGrowerGrown) lGrowerGrown qGrowerGrown kGrowerGrown
    bGrowerGrown := (fun_mk (st := sGrowerGrown) lGrowerGrown qGrowerGrown kGrowerGrown).binds (ps := ["self", "start", "shares"]) fun _ _ _ _ _ _ us hl => match us, hl with | [_, _, _], _ => rfl
    meGrowerParted := ⟨aGrowerParted, iGrowerParted, kGrowerParted⟩
    aGrowerParted := fGrowerParted
    dGrowerParted := PySem.W.fnOf "parted" "Grower.parted" (defArgs sGrowerParted) (defBody sGrowerParted) (defScope sGrowerParted) .none kVGrowerParted dcGrowerParted pmGrowerParted anGrowerParted cdGrowerParted ctGrowerParted
    fGrowerParted := fun_mk (st := sGrowerParted) lGrowerParted qGrowerParted kGrowerParted
    bGrowerParted := (fun_mk (st := sGrowerParted) lGrowerParted qGrowerParted kGrowerParted).binds (ps := ["self", "number", "shares"]) fun _ _ _ _ _ _ us hl => match us, hl with | [_, _, _], _ => rfl
    gtreeof := PySem.W.mg_of X G atreeof
    atreeof := ftreeof
    dtreeof := PySem.W.fnOf "tree_of" "tree_of" (defArgs streeof) (defBody streeof) (defScope streeof) .none kVtreeof dctreeof pmtreeof antreeof cdtreeof cttreeof
    ftreeof := fun_mk (st := streeof) ltreeof qtreeof ktreeof
    btreeof := (fun_mk (st := streeof) ltreeof qtreeof ktreeof).binds (ps := ["row"]) fun _ _ _ _ _ _ us hl => match us, hl with | [_], _ => rfl
    eSumEq := aSumEq
    eiSumEq := iSumEq
    aSumEq := fSumEq
    dSumEq := PySem.W.fnOf "__eq__" "Sum.__eq__" (defArgs sSumEq) (defBody sSumEq) (defScope sSumEq) .none kVSumEq dcSumEq pmSumEq anSumEq cdSumEq ctSumEq
    fSumEq := fun_mk (st := sSumEq) lSumEq qSumEq kSumEq
    bSumEq := (fun_mk (st := sSumEq) lSumEq qSumEq kSumEq).binds (ps := ["self", "other"]) fun _ _ _ _ _ _ us hl => match us, hl with | [_, _], _ => rfl
    eLeafEq := aLeafEq
    eiLeafEq := iLeafEq
    aLeafEq := fLeafEq
    dLeafEq := PySem.W.fnOf "__eq__" "Leaf.__eq__" (defArgs sLeafEq) (defBody sLeafEq) (defScope sLeafEq) .none kVLeafEq dcLeafEq pmLeafEq anLeafEq cdLeafEq ctLeafEq
    fLeafEq := fun_mk (st := sLeafEq) lLeafEq qLeafEq kLeafEq
    bLeafEq := (fun_mk (st := sLeafEq) lLeafEq qLeafEq kLeafEq).binds (ps := ["self", "other"]) fun _ _ _ _ _ _ us hl => match us, hl with | [_, _], _ => rfl
    eTestEq := aTestEq
    eiTestEq := iTestEq
    aTestEq := fTestEq
    dTestEq := PySem.W.fnOf "__eq__" "Test.__eq__" (defArgs sTestEq) (defBody sTestEq) (defScope sTestEq) .none kVTestEq dcTestEq pmTestEq anTestEq cdTestEq ctTestEq
    fTestEq := fun_mk (st := sTestEq) lTestEq qTestEq kTestEq
    bTestEq := (fun_mk (st := sTestEq) lTestEq qTestEq kTestEq).binds (ps := ["self", "other"]) fun _ _ _ _ _ _ us hl => match us, hl with | [_, _], _ => rfl
    gLstate := PySem.W.mg_of X G aLstate
    aLstate := fLstate
    dLstate := PySem.W.fnOf "_law_state" "_law_state" (defArgs sLstate) (defBody sLstate) (defScope sLstate) .none kVLstate dcLstate pmLstate anLstate cdLstate ctLstate
    fLstate := fun_mk (st := sLstate) lLstate qLstate kLstate
    bLstate := (fun_mk (st := sLstate) lLstate qLstate kLstate).binds (ps := ["_law_source"]) fun _ _ _ _ _ _ us hl => match us, hl with | [_], _ => rfl
    gLdigit := PySem.W.mg_of X G aLdigit
    aLdigit := fLdigit
    dLdigit := PySem.W.fnOf "_law_digit" "_law_digit" (defArgs sLdigit) (defBody sLdigit) (defScope sLdigit) .none kVLdigit dcLdigit pmLdigit anLdigit cdLdigit ctLdigit
    fLdigit := fun_mk (st := sLdigit) lLdigit qLdigit kLdigit
    bLdigit := (fun_mk (st := sLdigit) lLdigit qLdigit kLdigit).binds (ps := ["_law_state_here", "_law_base"]) fun _ _ _ _ _ _ us hl => match us, hl with | [_, _], _ => rfl
    gLdeed := PySem.W.mg_of X G aLdeed
    aLdeed := fLdeed
    dLdeed := PySem.W.fnOf "_law_deed" "_law_deed" (defArgs sLdeed) (defBody sLdeed) (defScope sLdeed) .none kVLdeed dcLdeed pmLdeed anLdeed cdLdeed ctLdeed
    fLdeed := fun_mk (st := sLdeed) lLdeed qLdeed kLdeed
    bLdeed := (fun_mk (st := sLdeed) lLdeed qLdeed kLdeed).binds (ps := ["_law_s", "_law_sizes"]) fun _ _ _ _ _ _ us hl => match us, hl with | [_, _], _ => rfl
    gLhouse := PySem.W.mg_of X G aLhouse
    aLhouse := fLhouse
    dLhouse := PySem.W.fnOf "_law_house" "_law_house" (defArgs sLhouse) (defBody sLhouse) (defScope sLhouse) .none kVLhouse dcLhouse pmLhouse anLhouse cdLhouse ctLhouse
    fLhouse := fun_mk (st := sLhouse) lLhouse qLhouse kLhouse
    bLhouse := (fun_mk (st := sLhouse) lLhouse qLhouse kLhouse).binds (ps := ["_law_s", "_law_jars", "_law_most", "_law_deeds"]) fun _ _ _ _ _ _ us hl => match us, hl with | [_, _, _, _], _ => rfl
    gLrow := PySem.W.mg_of X G aLrow
    aLrow := fLrow
    dLrow := PySem.W.fnOf "_law_row" "_law_row" (defArgs sLrow) (defBody sLrow) (defScope sLrow) .none kVLrow dcLrow pmLrow anLrow cdLrow ctLrow
    fLrow := fun_mk (st := sLrow) lLrow qLrow kLrow
    bLrow := (fun_mk (st := sLrow) lLrow qLrow kLrow).binds (ps := ["_law_sizes", "_law_deeds"]) fun _ _ _ _ _ _ us hl => match us, hl with | [_, _], _ => rfl
    gLstarts := PySem.W.mg_of X G aLstarts
    aLstarts := fLstarts
    dLstarts := PySem.W.fnOf "_law_starts" "_law_starts" (defArgs sLstarts) (defBody sLstarts) (defScope sLstarts) .none kVLstarts dcLstarts pmLstarts anLstarts cdLstarts ctLstarts
    fLstarts := fun_mk (st := sLstarts) lLstarts qLstarts kLstarts
    bLstarts := (fun_mk (st := sLstarts) lLstarts qLstarts kLstarts).binds (ps := ["_law_sizes", "_law_share"]) fun _ _ _ _ _ _ us hl => match us, hl with | [_, _], _ => rfl
    gLcometo := PySem.W.mg_of X G aLcometo
    aLcometo := fLcometo
    dLcometo := PySem.W.fnOf "_law_come_to" "_law_come_to" (defArgs sLcometo) (defBody sLcometo) (defScope sLcometo) .none kVLcometo dcLcometo pmLcometo anLcometo cdLcometo ctLcometo
    fLcometo := fun_mk (st := sLcometo) lLcometo qLcometo kLcometo
    bLcometo := (fun_mk (st := sLcometo) lLcometo qLcometo kLcometo).binds (ps := ["_law_group", "_law_start"]) fun _ _ _ _ _ _ us hl => match us, hl with | [_, _], _ => rfl
    gLtest := PySem.W.mg_of X G aLtest
    aLtest := fLtest
    dLtest := PySem.W.fnOf "_law_test" "_law_test" (defArgs sLtest) (defBody sLtest) (defScope sLtest) .none kVLtest dcLtest pmLtest anLtest cdLtest ctLtest
    fLtest := fun_mk (st := sLtest) lLtest qLtest kLtest
    bLtest := (fun_mk (st := sLtest) lLtest qLtest kLtest).binds (ps := ["_law_sizes", "_law_deed_here", "_law_sums"]) fun _ _ _ _ _ _ us hl => match us, hl with | [_, _, _], _ => rfl
    gLgone := PySem.W.mg_of X G aLgone
    aLgone := fLgone
    dLgone := PySem.W.fnOf "_law_gone" "_law_gone" (defArgs sLgone) (defBody sLgone) (defScope sLgone) .none kVLgone dcLgone pmLgone anLgone cdLgone ctLgone
    fLgone := fun_mk (st := sLgone) lLgone qLgone kLgone
    bLgone := (fun_mk (st := sLgone) lLgone qLgone kLgone).binds (ps := ["_law_sizes", "_law_deed_here", "_law_sums", "_law_first"]) fun _ _ _ _ _ _ us hl => match us, hl with | [_, _, _, _], _ => rfl
    gLgrown := PySem.W.mg_of X G aLgrown
    aLgrown := fLgrown
    dLgrown := PySem.W.fnOf "_law_grown" "_law_grown" (defArgs sLgrown) (defBody sLgrown) (defScope sLgrown) .none kVLgrown dcLgrown pmLgrown anLgrown cdLgrown ctLgrown
    fLgrown := fun_mk (st := sLgrown) lLgrown qLgrown kLgrown
    bLgrown := (fun_mk (st := sLgrown) lLgrown qLgrown kLgrown).binds (ps := ["_law_m", "_law_at", "_law_sums", "_law_inside"]) fun _ _ _ _ _ _ us hl => match us, hl with | [_, _, _, _], _ => rfl
    gLtold := PySem.W.mg_of X G aLtold
    aLtold := fLtold
    dLtold := PySem.W.fnOf "_law_told" "_law_told" (defArgs sLtold) (defBody sLtold) (defScope sLtold) .none kVLtold dcLtold pmLtold anLtold cdLtold ctLtold
    fLtold := fun_mk (st := sLtold) lLtold qLtold kLtold
    bLtold := (fun_mk (st := sLtold) lLtold qLtold kLtold).binds (ps := ["_law_tree"]) fun _ _ _ _ _ _ us hl => match us, hl with | [_], _ => rfl
    glaw := PySem.W.mg_of X G alaw
    alaw := fa
    dlaw := PySem.W.fnOf "law" "law" (defArgs slaw) (defBody slaw) (defScope slaw) .none kVlaw dclaw pmlaw anlaw cdlaw ctlaw
    flaw := fun_mk (st := slaw) llaw qlaw klaw
    blaw := (fun_mk (st := slaw) llaw qlaw klaw).binds (ps := ["_law_script"]) fun _ _ _ _ _ _ us hl => match us, hl with | [_], _ => rfl
    lJars := ⟨pgJars, hdJars, poJars, saJars⟩
    kJars := ⟨mkJars, aJarsInit, iJarsInit, kcJars⟩
    nJars_sizes := nJars_sizes
    lPour := ⟨pgPour, hdPour, poPour, saPour⟩
    kPour := ⟨mkPour, aPourInit, iPourInit, kcPour⟩
    nPour_a := nPour_a
    nPour_b := nPour_b
    lPut := ⟨pgPut, hdPut, poPut, saPut⟩
    kPut := ⟨mkPut, aPutInit, iPutInit, kcPut⟩
    nPut_a := nPut_a
    nPut_k := nPut_k
    lDraw := ⟨pgDraw, hdDraw, poDraw, saDraw⟩
    kDraw := ⟨mkDraw, aDrawInit, iDrawInit, kcDraw⟩
    nDraw_a := nDraw_a
    nDraw_k := nDraw_k
    lChange := ⟨pgChange, hdChange, poChange, saChange⟩
    kChange := ⟨mkChange, aChangeInit, iChangeInit, kcChange⟩
    nChange_a := nChange_a
    nChange_b := nChange_b
    lRow := ⟨pgRow, hdRow, poRow, saRow⟩
    kRow := ⟨mkRow, aRowInit, iRowInit, kcRow⟩
    nRow_jars := nRow_jars
    nRow_deeds := nRow_deeds
    lShare := ⟨pgShare, hdShare, poShare, saShare⟩
    kShare := ⟨mkShare, aShareInit, iShareInit, kcShare⟩
    nShare_group := nShare_group
    nShare_more := nShare_more
    nShare_low := nShare_low
    nShare_high := nShare_high
    lSum := ⟨pgSum, hdSum, poSum, saSum⟩
    kSum := ⟨mkSum, aSumInit, iSumInit, kcSum⟩
    nSum_group := nSum_group
    nSum_more := nSum_more
    lLeaf := ⟨pgLeaf, hdLeaf, poLeaf, saLeaf⟩
    kLeaf := ⟨mkLeaf, aLeafInit, iLeafInit, kcLeaf⟩
    nLeaf_sums := nLeaf_sums
    lTest := ⟨pgTest, hdTest, poTest, saTest⟩
    kTest := ⟨mkTest, aTestInit, iTestInit, kcTest⟩
    nTest_deed := nTest_deed
    nTest_group := nTest_group
    nTest_limit := nTest_limit
    nTest_first := nTest_first
    nTest_second := nTest_second
    lGrower := ⟨pgGrower, hdGrower, poGrower, saGrower⟩
    kGrower := ⟨mkGrower, aGrowerInit, iGrowerInit, kcGrower⟩
    nGrower_jars := nGrower_jars
    nGrower_deeds := nGrower_deeds
    nGrower_leaves := nGrower_leaves
    lTree := ⟨pgTree, hdTree, poTree, saTree⟩
    yChange := ⟨yaChange, yn, yt, ymChange⟩
    yDraw := ⟨yaDraw, yn, yt, ymDraw⟩
    yLeaf := ⟨yaLeaf, yn, yt, ymLeaf⟩
    yPour := ⟨yaPour, yn, yt, ymPour⟩
    yPut := ⟨yaPut, yn, yt, ymPut⟩
    ySum := ⟨yaSum, yn, yt, ymSum⟩
    yTest := ⟨yaTest, yn, yt, ymTest⟩
    iPour_Put := isPour_Put
    iPour_Draw := isPour_Draw
    iPour_Pour := isPour_Pour
    iPour_Change := isPour_Change
    iPut_Put := isPut_Put
    iPut_Draw := isPut_Draw
    iPut_Pour := isPut_Pour
    iPut_Change := isPut_Change
    iDraw_Put := isDraw_Put
    iDraw_Draw := isDraw_Draw
    iDraw_Pour := isDraw_Pour
    iDraw_Change := isDraw_Change
    iChange_Put := isChange_Put
    iChange_Draw := isChange_Draw
    iChange_Pour := isChange_Pour
    iChange_Change := isChange_Change
    iLeaf_Leaf := isLeaf_Leaf
    iTest_Leaf := isTest_Leaf
    iSum_Sum := isSum_Sum
    iLeaf_Test := isLeaf_Test
    iLeaf_Tree := isLeaf_Tree
    iTest_Test := isTest_Test
    iTest_Tree := isTest_Tree
    neLeaf := ⟨neMLeaf, ymLeaf, aLeafEq, iLeafEq⟩
    neTest := ⟨neMTest, ymTest, aTestEq, iTestEq⟩
    nfLeaf_Test := nfLeaf_Test
    nfTest_Leaf := nfTest_Leaf
    iWide := aWideInit
    tWide := tyWide
    oWide := ⟨⟨nmXWide, qXWide, NXWide, bsXWide, bmXWide, snXWide, subXWide, abXWide, colXWide, ddXWide, r0XWide, r1XWide, r2XWide, r3XWide, r5XWide, oxWide, orWide⟩, osWide, obWide, otWide, okWide⟩
    xfWide := ⟨xgWide, xnWide, obWide, xdWide⟩
    nWide_count := nWide_count
    emWide_Wide := PySem.W.exm_ref obWide xdWide otWide euWide_Wide
    tMOSTJARS := tkMOSTJARS
    cMOSTJARS := PySem.W.mg_of X G gMOSTJARS
    tMOSTDEEDS := tkMOSTDEEDS
    cMOSTDEEDS := PySem.W.mg_of X G gMOSTDEEDS
    tMOSTMUCH := tkMOSTMUCH
    cMOSTMUCH := PySem.W.mg_of X G gMOSTMUCH
    tMOSTLEAVES := tkMOSTLEAVES
    cMOSTLEAVES := PySem.W.mg_of X G gMOSTLEAVES
    nabs := PySem.W.mg_none_of X G zabs
    nenumerate := PySem.W.mg_none_of X G zenumerate
    nint := PySem.W.mg_none_of X G zint
    nisinstance := PySem.W.mg_none_of X G zisinstance
    nlen := PySem.W.mg_none_of X G zlen
    nlist := PySem.W.mg_none_of X G zlist
    nmax := PySem.W.mg_none_of X G zmax
    nmin := PySem.W.mg_none_of X G zmin
    nrange := PySem.W.mg_none_of X G zrange
    nsorted := PySem.W.mg_none_of X G zsorted
    nsum := PySem.W.mg_none_of X G zsum
    ntuple := PySem.W.mg_none_of X G ztuple }⟩
theorem walk {l : PySem.W.OpenLaw} {q : Program} {loose : List Str} {XP : (Str → Option Value) → Heap → Prop} {YP : World → Heap → Prop} {d : DefRec} {K : Params → PySem.W.Frag} (hn : l.most = some 63) (hdf : d.params.defaults = [])
    (hY : ∀ (w : World) (h : Heap), YP w h → (K w.params).In h)
    (F : ∀ (w : World) (mg : Str → Option Value) (fa : Addr) (h : Heap), (K w.params).In h → h.Ns mainGlobals mg → mg d.name = some (.ref fa) →
      ∃ fd : FuncData, (∀ (s : Shared) (u : Value), BindsTo s fd ⟨[u], []⟩ [("_law_script", u)]) ∧ ∀ base : Heap, (K w.params).In base → base.Ns mainGlobals mg → FnOk l.prog w (K w.params) mg base CX0 64 fa fd ["_law_script"] (spLaw (K w.params))) :
    PySem.W.WalkO q loose XP YP l.row.toRowW d [] (fun f vs => PySem.call f vs) :=
  L2.walk_of (n := 63) (k := 64) (x := "_law_script") (CX := fun _ => CX0) (sp := fun w => spLaw (K w.params)) hn (by decide) hdf ⟨rfl, by decide, by decide⟩ hY F (fun _ _ a ns hl _ hS => ⟨a, ns, rfl, hS, hl, fun _ => rfl⟩) fun _ _ _ _ _ z => z
end Kp
/-! names taken, so that the head lays no twin of its own for these trees: the compiled text stays small -/
def PySem.W.Fast.twtree_297 : Unit := ()
def PySem.W.Fast.tw9264920944884499617 : Unit := ()
def PySem.W.Fast.twtree_355 : Unit := ()
def PySem.W.Fast.tw14765818213672607425 : Unit := ()
def PySem.W.Fast.twtree_326 : Unit := ()
def PySem.W.Fast.tw38504390412702529 : Unit := ()
def PySem.W.Fast.twtree_222 : Unit := ()
def PySem.W.Fast.tw9273726131940524293 : Unit := ()
def PySem.W.Fast.twheap_39 : Unit := ()
def PySem.W.Fast.tw1438171472459033893 : Unit := ()
def PySem.W.Fast.twtree_164 : Unit := ()
def PySem.W.Fast.tw14716596948206301510 : Unit := ()
def PySem.W.Fast.twtree_639 : Unit := ()
def PySem.W.Fast.tw16423622715206668198 : Unit := ()
def PySem.W.Fast.twtree_106 : Unit := ()
def PySem.W.Fast.tw11947265754396646343 : Unit := ()
def PySem.W.Fast.twtree_491 : Unit := ()
def PySem.W.Fast.tw1809954657145790152 : Unit := ()
def PySem.W.Fast.twtree_565 : Unit := ()
def PySem.W.Fast.tw15759174597832374024 : Unit := ()
def PySem.W.Fast.twtree_769 : Unit := ()
def PySem.W.Fast.tw12443710842866578026 : Unit := ()
def PySem.W.Fast.twtree_435 : Unit := ()
def PySem.W.Fast.tw6279252958532698922 : Unit := ()
def PySem.W.Fast.twtree_47 : Unit := ()
def PySem.W.Fast.tw5328574494635359279 : Unit := ()
def PySem.W.Fast.twtree_384 : Unit := ()
def PySem.W.Fast.tw3330075817187290320 : Unit := ()
def PySem.W.Fast.twtree_268 : Unit := ()
def PySem.W.Fast.tw11773147398072664048 : Unit := ()
def PySem.W.Fast.twtree_695 : Unit := ()
def PySem.W.Fast.tw12281114530436263217 : Unit := ()
def PySem.W.Fast.twtree_77 : Unit := ()
def PySem.W.Fast.tw15199392739149090547 : Unit := ()
def PySem.W.Fast.twtree_193 : Unit := ()
def PySem.W.Fast.tw9811308968773494579 : Unit := ()
def PySem.W.Fast.twtree_581 : Unit := ()
def PySem.W.Fast.tw3111621472356847895 : Unit := ()
def PySem.W.Fast.twtree_135 : Unit := ()
def PySem.W.Fast.tw2602899672092252188 : Unit := ()
def PySem.W.Fast.twtree_535 : Unit := ()
def PySem.W.Fast.tw7573725139883842332 : Unit := ()
def PySem.W.Fast.twheap_46 : Unit := ()
def PySem.W.Fast.tw14781712083246129469 : Unit := ()
def PySem.W.Fast.twtree_252 : Unit := ()
def PySem.W.Fast.tw9966910399612234653 : Unit := ()
def PySem.W.Fast.twtree_610 : Unit := ()
def PySem.W.Fast.tw9864299212341657727 : Unit := ()
def PySem.W.Fast.twheap_770 : Unit := ()
def PySem.W.Fast.tw10026359142141942303 : Unit := ()
open PySem PySem.W PyProof.Rows
set_option maxRecDepth 100000 in
set_option maxHeartbeats 0 in
theorem PySem.Challenge.cw_wholedrops_k22_trees_by_a_model_holds : PySem.Challenge.rw_wholedrops_k22_trees_by_a_model.Holds := by
  w_on; o_law; k_head; (case hw => w_witness2)
  k_fill
  refine Kp.walk (l := PySem.Challenge.rw_wholedrops_k22_trees_by_a_model) rfl rfl (fun w h Y => PySem.W.kIn_of Y) ?F
  case F =>
    intro w mg fa h KX G hmg
    refine' Kp.all_mk KX G hmg ?xJars ?xPour ?xPut ?xDraw ?xChange ?xRow ?xShare ?xSum ?xLeaf ?xTest ?xGrower ?xTree ?xWide ?acheckmuch ?lcheckmuch ?qcheckmuch ?kcheckmuch ?acheckjar ?lcheckjar ?qcheckjar ?kcheckjar ?acheckdeed ?lcheckdeed ?qcheckdeed ?kcheckdeed ?aJarsInit ?iJarsInit ?lJarsInit ?qJarsInit ?kJarsInit ?aPourInit ?iPourInit ?lPourInit ?qPourInit ?kPourInit ?aPutInit ?iPutInit ?lPutInit ?qPutInit ?kPutInit ?aDrawInit ?iDrawInit ?lDrawInit ?qDrawInit ?kDrawInit ?aChangeInit ?iChangeInit ?lChangeInit ?qChangeInit ?kChangeInit ?aRowInit ?iRowInit ?lRowInit ?qRowInit ?kRowInit ?aWideInit ?iWideInit ?lWideInit ?qWideInit ?kWideInit ?aShareInit ?iShareInit ?lShareInit ?qShareInit ?kShareInit ?afirstshares ?lfirstshares ?qfirstshares ?kfirstshares ?aofnojar ?lofnojar ?qofnojar ?kofnojar ?atogether ?ltogether ?qtogether ?ktogether ?aatmost ?latmost ?qatmost ?katmost ?aatleast ?latleast ?qatleast ?katleast ?atested ?ltested ?qtested ?ktested ?alimitof ?llimitof ?qlimitof ?klimitof ?afirstway ?lfirstway ?qfirstway ?kfirstway ?asecondway ?lsecondway ?qsecondway ?ksecondway ?aischoice ?lischoice ?qischoice ?kischoice ?aonlyway ?lonlyway ?qonlyway ?konlyway ?aSumInit ?iSumInit ?lSumInit ?qSumInit ?kSumInit ?aLeafInit ?iLeafInit ?lLeafInit ?qLeafInit ?kLeafInit ?aTestInit ?iTestInit ?lTestInit ?qTestInit ?kTestInit ?aGrowerInit ?iGrowerInit ?lGrowerInit ?qGrowerInit ?kGrowerInit ?aGrowerLeaf ?iGrowerLeaf ?lGrowerLeaf ?qGrowerLeaf ?kGrowerLeaf ?aGrowerGrown ?iGrowerGrown ?lGrowerGrown ?qGrowerGrown ?kGrowerGrown ?aGrowerParted ?iGrowerParted ?lGrowerParted ?qGrowerParted ?kGrowerParted ?atreeof ?ltreeof ?qtreeof ?ktreeof ?aSumEq ?iSumEq ?lSumEq ?qSumEq ?kSumEq ?aLeafEq ?iLeafEq ?lLeafEq ?qLeafEq ?kLeafEq ?aTestEq ?iTestEq ?lTestEq ?qTestEq ?kTestEq ?aLstate ?lLstate ?qLstate ?kLstate ?aLdigit ?lLdigit ?qLdigit ?kLdigit ?aLdeed ?lLdeed ?qLdeed ?kLdeed ?aLhouse ?lLhouse ?qLhouse ?kLhouse ?aLrow ?lLrow ?qLrow ?kLrow ?aLstarts ?lLstarts ?qLstarts ?kLstarts ?aLcometo ?lLcometo ?qLcometo ?kLcometo ?aLtest ?lLtest ?qLtest ?kLtest ?aLgone ?lLgone ?qLgone ?kLgone ?aLgrown ?lLgrown ?qLgrown ?kLgrown ?aLtold ?lLtold ?qLtold ?kLtold ?alaw ?llaw ?qlaw ?klaw ?pgJars ?hdJars ?poJars ?saJars ?mkJars ?kcJars ?nJars_sizes ?pgPour ?hdPour ?poPour ?saPour ?mkPour ?kcPour ?nPour_a ?nPour_b ?pgPut ?hdPut ?poPut ?saPut ?mkPut ?kcPut ?nPut_a ?nPut_k ?pgDraw ?hdDraw ?poDraw ?saDraw ?mkDraw ?kcDraw ?nDraw_a ?nDraw_k ?pgChange ?hdChange ?poChange ?saChange ?mkChange ?kcChange ?nChange_a ?nChange_b ?pgRow ?hdRow ?poRow ?saRow ?mkRow ?kcRow ?nRow_jars ?nRow_deeds ?pgShare ?hdShare ?poShare ?saShare ?mkShare ?kcShare ?nShare_group ?nShare_more ?nShare_low ?nShare_high ?pgSum ?hdSum ?poSum ?saSum ?mkSum ?kcSum ?nSum_group ?nSum_more ?pgLeaf ?hdLeaf ?poLeaf ?saLeaf ?mkLeaf ?kcLeaf ?nLeaf_sums ?pgTest ?hdTest ?poTest ?saTest ?mkTest ?kcTest ?nTest_deed ?nTest_group ?nTest_limit ?nTest_first ?nTest_second ?pgGrower ?hdGrower ?poGrower ?saGrower ?mkGrower ?kcGrower ?nGrower_jars ?nGrower_deeds ?nGrower_leaves ?pgTree ?hdTree ?poTree ?saTree ?yaChange ?ymChange ?yaDraw ?ymDraw ?yaLeaf ?ymLeaf ?yaPour ?ymPour ?yaPut ?ymPut ?yaSum ?ymSum ?yaTest ?ymTest ?yn ?yt ?isPour_Put ?isPour_Draw ?isPour_Pour ?isPour_Change ?isPut_Put ?isPut_Draw ?isPut_Pour ?isPut_Change ?isDraw_Put ?isDraw_Draw ?isDraw_Pour ?isDraw_Change ?isChange_Put ?isChange_Draw ?isChange_Pour ?isChange_Change ?isLeaf_Leaf ?isTest_Leaf ?isSum_Sum ?isLeaf_Test ?isLeaf_Tree ?isTest_Test ?isTest_Tree ?neMLeaf ?neMTest ?nfLeaf_Test ?nfTest_Leaf ?tyWide ?oxWide ?orWide ?osWide ?obWide ?otWide ?okWide ?xgWide ?xnWide ?xdWide ?nWide_count ?euWide_Wide ?gMOSTJARS ?gMOSTDEEDS ?gMOSTMUCH ?gMOSTLEAVES ?zabs ?zenumerate ?zint ?zisinstance ?zlen ?zlist ?zmax ?zmin ?zrange ?zsorted ?zsum ?ztuple
    (case xJars => k_is)
    (case xPour => k_is)
    (case xPut => k_is)
    (case xDraw => k_is)
    (case xChange => k_is)
    (case xRow => k_is)
    (case xShare => k_is)
    (case xSum => k_is)
    (case xLeaf => k_is)
    (case xTest => k_is)
    (case xGrower => k_is)
    (case xTree => k_is)
    (case xWide => k_is)
    (case acheckmuch => k_is)
    (case lcheckmuch => k_is)
    (case qcheckmuch => k_is)
    (case kcheckmuch => k_is)
    (case acheckjar => k_is)
    (case lcheckjar => k_is)
    (case qcheckjar => k_is)
    (case kcheckjar => k_is)
    (case acheckdeed => k_is)
    (case lcheckdeed => k_is)
    (case qcheckdeed => k_is)
    (case kcheckdeed => k_is)
    (case aJarsInit => k_is)
    (case iJarsInit => k_is)
    (case lJarsInit => k_is)
    (case qJarsInit => k_is)
    (case kJarsInit => k_is)
    (case aPourInit => k_is)
    (case iPourInit => k_is)
    (case lPourInit => k_is)
    (case qPourInit => k_is)
    (case kPourInit => k_is)
    (case aPutInit => k_is)
    (case iPutInit => k_is)
    (case lPutInit => k_is)
    (case qPutInit => k_is)
    (case kPutInit => k_is)
    (case aDrawInit => k_is)
    (case iDrawInit => k_is)
    (case lDrawInit => k_is)
    (case qDrawInit => k_is)
    (case kDrawInit => k_is)
    (case aChangeInit => k_is)
    (case iChangeInit => k_is)
    (case lChangeInit => k_is)
    (case qChangeInit => k_is)
    (case kChangeInit => k_is)
    (case aRowInit => k_is)
    (case iRowInit => k_is)
    (case lRowInit => k_is)
    (case qRowInit => k_is)
    (case kRowInit => k_is)
    (case aWideInit => k_is)
    (case iWideInit => k_is)
    (case lWideInit => k_is)
    (case qWideInit => k_is)
    (case kWideInit => k_is)
    (case aShareInit => k_is)
    (case iShareInit => k_is)
    (case lShareInit => k_is)
    (case qShareInit => k_is)
    (case kShareInit => k_is)
    (case afirstshares => k_is)
    (case lfirstshares => k_is)
    (case qfirstshares => k_is)
    (case kfirstshares => k_is)
    (case aofnojar => k_is)
    (case lofnojar => k_is)
    (case qofnojar => k_is)
    (case kofnojar => k_is)
    (case atogether => k_is)
    (case ltogether => k_is)
    (case qtogether => k_is)
    (case ktogether => k_is)
    (case aatmost => k_is)
    (case latmost => k_is)
    (case qatmost => k_is)
    (case katmost => k_is)
    (case aatleast => k_is)
    (case latleast => k_is)
    (case qatleast => k_is)
    (case katleast => k_is)
    (case atested => k_is)
    (case ltested => k_is)
    (case qtested => k_is)
    (case ktested => k_is)
    (case alimitof => k_is)
    (case llimitof => k_is)
    (case qlimitof => k_is)
    (case klimitof => k_is)
    (case afirstway => k_is)
    (case lfirstway => k_is)
    (case qfirstway => k_is)
    (case kfirstway => k_is)
    (case asecondway => k_is)
    (case lsecondway => k_is)
    (case qsecondway => k_is)
    (case ksecondway => k_is)
    (case aischoice => k_is)
    (case lischoice => k_is)
    (case qischoice => k_is)
    (case kischoice => k_is)
    (case aonlyway => k_is)
    (case lonlyway => k_is)
    (case qonlyway => k_is)
    (case konlyway => k_is)
    (case aSumInit => k_is)
    (case iSumInit => k_is)
    (case lSumInit => k_is)
    (case qSumInit => k_is)
    (case kSumInit => k_is)
    (case aLeafInit => k_is)
    (case iLeafInit => k_is)
    (case lLeafInit => k_is)
    (case qLeafInit => k_is)
    (case kLeafInit => k_is)
    (case aTestInit => k_is)
    (case iTestInit => k_is)
    (case lTestInit => k_is)
    (case qTestInit => k_is)
    (case kTestInit => k_is)
    (case aGrowerInit => k_is)
    (case iGrowerInit => k_is)
    (case lGrowerInit => k_is)
    (case qGrowerInit => k_is)
    (case kGrowerInit => k_is)
    (case aGrowerLeaf => k_is)
    (case iGrowerLeaf => k_is)
    (case lGrowerLeaf => k_is)
    (case qGrowerLeaf => k_is)
    (case kGrowerLeaf => k_is)
    (case aGrowerGrown => k_is)
    (case iGrowerGrown => k_is)
    (case lGrowerGrown => k_is)
    (case qGrowerGrown => k_is)
    (case kGrowerGrown => k_is)
    (case aGrowerParted => k_is)
    (case iGrowerParted => k_is)
    (case lGrowerParted => k_is)
    (case qGrowerParted => k_is)
    (case kGrowerParted => k_is)
    (case atreeof => k_is)
    (case ltreeof => k_is)
    (case qtreeof => k_is)
    (case ktreeof => k_is)
    (case aSumEq => k_is)
    (case iSumEq => k_is)
    (case lSumEq => k_is)
    (case qSumEq => k_is)
    (case kSumEq => k_is)
    (case aLeafEq => k_is)
    (case iLeafEq => k_is)
    (case lLeafEq => k_is)
    (case qLeafEq => k_is)
    (case kLeafEq => k_is)
    (case aTestEq => k_is)
    (case iTestEq => k_is)
    (case lTestEq => k_is)
    (case qTestEq => k_is)
    (case kTestEq => k_is)
    (case aLstate => k_is)
    (case lLstate => k_is)
    (case qLstate => k_is)
    (case kLstate => k_is)
    (case aLdigit => k_is)
    (case lLdigit => k_is)
    (case qLdigit => k_is)
    (case kLdigit => k_is)
    (case aLdeed => k_is)
    (case lLdeed => k_is)
    (case qLdeed => k_is)
    (case kLdeed => k_is)
    (case aLhouse => k_is)
    (case lLhouse => k_is)
    (case qLhouse => k_is)
    (case kLhouse => k_is)
    (case aLrow => k_is)
    (case lLrow => k_is)
    (case qLrow => k_is)
    (case kLrow => k_is)
    (case aLstarts => k_is)
    (case lLstarts => k_is)
    (case qLstarts => k_is)
    (case kLstarts => k_is)
    (case aLcometo => k_is)
    (case lLcometo => k_is)
    (case qLcometo => k_is)
    (case kLcometo => k_is)
    (case aLtest => k_is)
    (case lLtest => k_is)
    (case qLtest => k_is)
    (case kLtest => k_is)
    (case aLgone => k_is)
    (case lLgone => k_is)
    (case qLgone => k_is)
    (case kLgone => k_is)
    (case aLgrown => k_is)
    (case lLgrown => k_is)
    (case qLgrown => k_is)
    (case kLgrown => k_is)
    (case aLtold => k_is)
    (case lLtold => k_is)
    (case qLtold => k_is)
    (case kLtold => k_is)
    (case alaw => k_is)
    (case llaw => k_is)
    (case qlaw => k_is)
    (case klaw => k_is)
    (case pgJars => k_is)
    (case hdJars => k_is)
    (case poJars => k_is)
    (case saJars => k_is)
    (case mkJars => k_is)
    (case kcJars => k_is)
    (case nJars_sizes => k_is)
    (case pgPour => k_is)
    (case hdPour => k_is)
    (case poPour => k_is)
    (case saPour => k_is)
    (case mkPour => k_is)
    (case kcPour => k_is)
    (case nPour_a => k_is)
    (case nPour_b => k_is)
    (case pgPut => k_is)
    (case hdPut => k_is)
    (case poPut => k_is)
    (case saPut => k_is)
    (case mkPut => k_is)
    (case kcPut => k_is)
    (case nPut_a => k_is)
    (case nPut_k => k_is)
    (case pgDraw => k_is)
    (case hdDraw => k_is)
    (case poDraw => k_is)
    (case saDraw => k_is)
    (case mkDraw => k_is)
    (case kcDraw => k_is)
    (case nDraw_a => k_is)
    (case nDraw_k => k_is)
    (case pgChange => k_is)
    (case hdChange => k_is)
    (case poChange => k_is)
    (case saChange => k_is)
    (case mkChange => k_is)
    (case kcChange => k_is)
    (case nChange_a => k_is)
    (case nChange_b => k_is)
    (case pgRow => k_is)
    (case hdRow => k_is)
    (case poRow => k_is)
    (case saRow => k_is)
    (case mkRow => k_is)
    (case kcRow => k_is)
    (case nRow_jars => k_is)
    (case nRow_deeds => k_is)
    (case pgShare => k_is)
    (case hdShare => k_is)
    (case poShare => k_is)
    (case saShare => k_is)
    (case mkShare => k_is)
    (case kcShare => k_is)
    (case nShare_group => k_is)
    (case nShare_more => k_is)
    (case nShare_low => k_is)
    (case nShare_high => k_is)
    (case pgSum => k_is)
    (case hdSum => k_is)
    (case poSum => k_is)
    (case saSum => k_is)
    (case mkSum => k_is)
    (case kcSum => k_is)
    (case nSum_group => k_is)
    (case nSum_more => k_is)
    (case pgLeaf => k_is)
    (case hdLeaf => k_is)
    (case poLeaf => k_is)
    (case saLeaf => k_is)
    (case mkLeaf => k_is)
    (case kcLeaf => k_is)
    (case nLeaf_sums => k_is)
    (case pgTest => k_is)
    (case hdTest => k_is)
    (case poTest => k_is)
    (case saTest => k_is)
    (case mkTest => k_is)
    (case kcTest => k_is)
    (case nTest_deed => k_is)
    (case nTest_group => k_is)
    (case nTest_limit => k_is)
    (case nTest_first => k_is)
    (case nTest_second => k_is)
    (case pgGrower => k_is)
    (case hdGrower => k_is)
    (case poGrower => k_is)
    (case saGrower => k_is)
    (case mkGrower => k_is)
    (case kcGrower => k_is)
    (case nGrower_jars => k_is)
    (case nGrower_deeds => k_is)
    (case nGrower_leaves => k_is)
    (case pgTree => k_is)
    (case hdTree => k_is)
    (case poTree => k_is)
    (case saTree => k_is)
    (case yaChange => k_is)
    (case ymChange => k_is)
    (case yaDraw => k_is)
    (case ymDraw => k_is)
    (case yaLeaf => k_is)
    (case ymLeaf => k_is)
    (case yaPour => k_is)
    (case ymPour => k_is)
    (case yaPut => k_is)
    (case ymPut => k_is)
    (case yaSum => k_is)
    (case ymSum => k_is)
    (case yaTest => k_is)
    (case ymTest => k_is)
    (case yn => k_is)
    (case yt => k_is)
    (case isPour_Put => (exact KpR.kit_cls (by k_is) (by k_is) (by k_is) (by decide)))
    (case isPour_Draw => (exact KpR.kit_cls (by k_is) (by k_is) (by k_is) (by decide)))
    (case isPour_Pour => exact KpR.kit_self (by simp))
    (case isPour_Change => (exact KpR.kit_cls (by k_is) (by k_is) (by k_is) (by decide)))
    (case isPut_Put => exact KpR.kit_self (by simp))
    (case isPut_Draw => (exact KpR.kit_cls (by k_is) (by k_is) (by k_is) (by decide)))
    (case isPut_Pour => (exact KpR.kit_cls (by k_is) (by k_is) (by k_is) (by decide)))
    (case isPut_Change => (exact KpR.kit_cls (by k_is) (by k_is) (by k_is) (by decide)))
    (case isDraw_Put => (exact KpR.kit_cls (by k_is) (by k_is) (by k_is) (by decide)))
    (case isDraw_Draw => exact KpR.kit_self (by simp))
    (case isDraw_Pour => (exact KpR.kit_cls (by k_is) (by k_is) (by k_is) (by decide)))
    (case isDraw_Change => (exact KpR.kit_cls (by k_is) (by k_is) (by k_is) (by decide)))
    (case isChange_Put => (exact KpR.kit_cls (by k_is) (by k_is) (by k_is) (by decide)))
    (case isChange_Draw => (exact KpR.kit_cls (by k_is) (by k_is) (by k_is) (by decide)))
    (case isChange_Pour => (exact KpR.kit_cls (by k_is) (by k_is) (by k_is) (by decide)))
    (case isChange_Change => exact KpR.kit_self (by simp))
    (case isLeaf_Leaf => exact KpR.kit_self (by simp))
    (case isTest_Leaf => (exact KpR.kit_cls (by k_is) (by k_is) (by k_is) (by decide)))
    (case isSum_Sum => exact KpR.kit_self (by simp))
    (case isLeaf_Test => (exact KpR.kit_cls (by k_is) (by k_is) (by k_is) (by decide)))
    (case isLeaf_Tree => (exact KpR.kit_cls (by k_is) (by k_is) (by k_is) (by decide)))
    (case isTest_Test => exact KpR.kit_self (by simp))
    (case isTest_Tree => (exact KpR.kit_cls (by k_is) (by k_is) (by k_is) (by decide)))
    (case neMLeaf => k_is)
    (case neMTest => k_is)
    (case nfLeaf_Test => k_is)
    (case nfTest_Leaf => k_is)
    (case tyWide => k_is)
    (case oxWide => k_is)
    (case orWide => rfl)
    (case osWide => k_is)
    (case obWide => k_is)
    (case otWide => k_is)
    (case okWide => k_is)
    (case xgWide => k_is)
    (case xnWide => k_is)
    (case xdWide => k_is)
    (case nWide_count => k_is)
    (case euWide_Wide => k_is)
    (case gMOSTJARS => k_is)
    (case gMOSTDEEDS => k_is)
    (case gMOSTMUCH => k_is)
    (case gMOSTLEAVES => k_is)
    (case zabs => k_is)
    (case zenumerate => k_is)
    (case zint => k_is)
    (case zisinstance => k_is)
    (case zlen => k_is)
    (case zlist => k_is)
    (case zmax => k_is)
    (case zmin => k_is)
    (case zrange => k_is)
    (case zsorted => k_is)
    (case zsum => k_is)
    (case ztuple => k_is)


