import PyProof.Rows.All
import Wide.All
import OpenK.AllK
import Wide.FinOn
import HandS.ForMost
import HandS.Defaults
import HandS.MakeKwOnly
import HandS.IsInst
import HandS.Wide
import HandS.Style
import HandS.Zip
import HandS.Codes
import HandS.OwnEq
import HandS.TupAny
import HandS.TupMul
import HandS.More
import HandS.Exc
import HandS.TryMany
import HandS.ExcInit
import HandS.ExcField
import HandS.ExcIs
import HandS.WordsExc
import HandS.Dict
import KE.KDictDisplayH
import PyProof.InstNe
import PyProof.NeKinds
import PySem.Challenge.RW_wholedrops_k56_rounds_of_great_jars
set_option Elab.async false
set_option linter.all false
set_option maxRecDepth 100000
set_option maxHeartbeats 4000000
namespace Kp
/-! ### an if whose test is a Bool -/
theorem ifT {c : Bool} {A B : Prop} (hc : c = true) (h : A) : if c = true then A else B := by
  rw [if_pos hc]
  exact h
theorem ifF {c : Bool} {A B : Prop} (hc : c = false) (h : B) : if c = true then A else B := by
  rw [hc, if_neg Bool.false_ne_true]
  exact h
theorem ifD {P A B : Prop} [Decidable P] (h1 : P → A) (h2 : ¬ P → B) : if decide P = true then A else B := by
  by_cases h : P
  · exact ifT (decide_eq_true h) (h1 h)
  · exact ifF (decide_eq_false h) (h2 h)
theorem ifN {P A B : Prop} [Decidable P] (h1 : P → B) (h2 : ¬ P → A) : if (!decide P) = true then A else B := by
  by_cases h : P
  · exact ifF (by rw [decide_eq_true h]; rfl) (h1 h)
  · exact ifT (by rw [decide_eq_false h]; rfl) (h2 h)
/-! ### lists of ints -/
def at0 (l : List Int) (i : Nat) : Int := l.getD i 0
theorem at0_get {l : List Int} {i : Nat} (h : i < l.length) : l[i]? = some (at0 l i) := by
  unfold at0
  rw [List.getD_eq_getElem?_getD, List.getElem?_eq_getElem h]
  rfl
theorem at0_of {l : List Int} {i : Nat} {v : Int} (h : l[i]? = some v) : at0 l i = v := by
  unfold at0
  rw [List.getD_eq_getElem?_getD, h]
  rfl
theorem at0_set {l : List Int} {i j : Nat} {v : Int} (h : i < l.length) : at0 (l.set i v) j = if i = j then v else at0 l j := by
  unfold at0
  rw [List.getD_eq_getElem?_getD, List.getD_eq_getElem?_getD, List.getElem?_set]
  by_cases e : i = j
  · subst e
    simp [h]
  · simp [e]
theorem at0_map {l : List Int} {f : Int → Int} {i : Nat} (h : i < l.length) : at0 (l.map f) i = f (at0 l i) := by
  have := at0_get h
  exact at0_of (by rw [List.getElem?_map, this]; rfl)
theorem ext0 {l m : List Int} (h : l.length = m.length) (e : ∀ i, i < l.length → at0 l i = at0 m i) : l = m := by
  apply List.ext_getElem? 
  intro i
  by_cases hi : i < l.length
  · rw [at0_get hi, at0_get (h ▸ hi), e i hi]
  · rw [List.getElem?_eq_none (by omega), List.getElem?_eq_none (by omega)]
/-! ### the deeds -/
inductive D where
  | pour (a b : Nat) | put (a : Nat) (k : Int) | draw (a : Nat) (k : Int) | change (a b : Nat)
  deriving DecidableEq
/-- what a deed must be for jars of these sizes -/
def D.ok (caps : List Int) : D → Prop
  | .pour a b => a < caps.length ∧ b < caps.length ∧ a ≠ b
  | .put a k => a < caps.length ∧ 1 ≤ k ∧ k ≤ 1000000000000
  | .draw a k => a < caps.length ∧ 1 ≤ k ∧ k ≤ 1000000000000
  | .change a b => a < caps.length ∧ b < caps.length ∧ a ≠ b ∧ at0 caps a = at0 caps b
/-- one deed, as behind_deed reckons it -/
def D.act (caps : List Int) (p : Int) (st : List Int) : D → List Int
  | .pour a b =>
    let m := if at0 caps b * p - at0 st b < at0 st a then at0 caps b * p - at0 st b else at0 st a
    (st.set a (at0 st a - m)).set b (at0 st b + m)
  | .put a k => st.set a (if at0 caps a * p < at0 st a + k * p then at0 caps a * p else at0 st a + k * p)
  | .draw a k => st.set a (if 0 > at0 st a - k * p then 0 else at0 st a - k * p)
  | .change a b => (st.set a (at0 st b)).set b (at0 st a)
def run (caps : List Int) (p : Int) (ds : List D) (st : List Int) : List Int := ds.foldl (D.act caps p) st
def runs (caps : List Int) (p : Int) (ds : List D) : Nat → List Int → List Int
  | 0, st => st
  | n + 1, st => run caps p ds (runs caps p ds n st)
/-- a start that can be -/
structure Stand (caps : List Int) (p : Int) (st : List Int) : Prop where
  len : st.length = caps.length
  lo : ∀ i, i < caps.length → 0 ≤ at0 st i
  hi : ∀ i, i < caps.length → at0 st i ≤ at0 caps i * p
structure Caps (caps : List Int) : Prop where
  l1 : 1 ≤ caps.length
  l6 : caps.length ≤ 6
  lo : ∀ i, i < caps.length → 1 ≤ at0 caps i
  hi : ∀ i, i < caps.length → at0 caps i ≤ 1000000000000
theorem act_len {caps st : List Int} {p : Int} {d : D} : (d.act caps p st).length = st.length := by
  cases d <;> simp [D.act]
theorem act_stand {caps st : List Int} {p : Int} {d : D} (hp : 1 ≤ p) (h : Stand caps p st) (hd : d.ok caps) : Stand caps p (d.act caps p st) := by
  have hl := h.len
  refine ⟨by rw [act_len, hl], ?_, ?_⟩
  all_goals
    intro i hi
    have z0 := h.lo i hi
    have z1 := h.hi i hi
    cases d with
    | pour a b =>
      obtain ⟨ha, hb, hab⟩ := hd
      have a0 := h.lo a ha
      have a1 := h.hi a ha
      have b0 := h.lo b hb
      have b1 := h.hi b hb
      simp only [D.act]
      rw [at0_set (by rw [List.length_set]; omega), at0_set (by omega)]
      by_cases e1 : b = i
      · subst e1
        rw [if_pos rfl]
        split <;> omega
      · rw [if_neg e1]
        by_cases e2 : a = i
        · subst e2
          rw [if_pos rfl]
          split <;> omega
        · rw [if_neg e2]
          omega
    | put a k =>
      obtain ⟨ha, hk, _⟩ := hd
      have a0 := h.lo a ha
      have a1 := h.hi a ha
      have kp : 0 ≤ k * p := Int.mul_nonneg (by omega) (by omega)
      simp only [D.act]
      rw [at0_set (by omega)]
      by_cases e1 : a = i
      · subst e1
        rw [if_pos rfl]
        split <;> omega
      · rw [if_neg e1]
        omega
    | draw a k =>
      obtain ⟨ha, hk, _⟩ := hd
      have a0 := h.lo a ha
      have a1 := h.hi a ha
      have kp : 0 ≤ k * p := Int.mul_nonneg (by omega) (by omega)
      simp only [D.act]
      rw [at0_set (by omega)]
      by_cases e1 : a = i
      · subst e1
        rw [if_pos rfl]
        split <;> omega
      · rw [if_neg e1]
        omega
    | change a b =>
      obtain ⟨ha, hb, hab, hs⟩ := hd
      have a0 := h.lo a ha
      have a1 := h.hi a ha
      have b0 := h.lo b hb
      have b1 := h.hi b hb
      simp only [D.act]
      rw [at0_set (by rw [List.length_set]; omega), at0_set (by omega)]
      by_cases e1 : b = i
      · subst e1
        rw [if_pos rfl]
        rw [hs] at a1
        omega
      · rw [if_neg e1]
        by_cases e2 : a = i
        · subst e2
          rw [if_pos rfl]
          rw [← hs] at b1
          omega
        · rw [if_neg e2]
          omega
theorem run_len {caps : List Int} {p : Int} : ∀ {ds : List D} {st : List Int}, (run caps p ds st).length = st.length
  | [], _ => rfl
  | d :: ds, st => (run_len (ds := ds) (st := d.act caps p st)).trans act_len
theorem run_stand {caps : List Int} {p : Int} (hp : 1 ≤ p) : ∀ {ds : List D} {st : List Int}, Stand caps p st → (∀ d ∈ ds, d.ok caps) → Stand caps p (run caps p ds st)
  | [], _, h, _ => h
  | d :: ds, st, h, hd => run_stand (ds := ds) hp (act_stand hp h (hd d (List.mem_cons_self ..))) fun e he => hd e (List.mem_cons_of_mem _ he)
theorem runs_stand {caps : List Int} {p : Int} (hp : 1 ≤ p) {ds : List D} (hd : ∀ d ∈ ds, d.ok caps) : ∀ {n : Nat} {st : List Int}, Stand caps p st → Stand caps p (runs caps p ds n st)
  | 0, _, h => h
  | n + 1, _, h => run_stand hp (runs_stand hp hd (n := n) h) hd
theorem run_app {caps : List Int} {p : Int} {ds es : List D} {st : List Int} : run caps p (ds ++ es) st = run caps p es (run caps p ds st) := List.foldl_append ..
theorem runs_add {caps : List Int} {p : Int} {ds : List D} : ∀ (m n : Nat) (st : List Int), runs caps p ds m (runs caps p ds n st) = runs caps p ds (n + m) st
  | 0, _, _ => rfl
  | m + 1, n, st => congrArg (run caps p ds) (runs_add m n st)
theorem runs_nil {caps : List Int} {p : Int} : ∀ (n : Nat) (st : List Int), runs caps p [] n st = st
  | 0, _ => rfl
  | n + 1, st => runs_nil n st
theorem run_snoc {caps : List Int} {p : Int} {ds : List D} {d : D} {i : Nat} {st : List Int} (h : ds[i]? = some d) : run caps p (ds.take (i + 1)) st = d.act caps p (run caps p (ds.take i) st) := by
  rw [List.take_add_one, h, run_app]
  rfl
end Kp

namespace Kp
theorem at0_app {l : List Int} {z : Int} {i : Nat} : at0 (l ++ [z]) i = if i < l.length then at0 l i else if i = l.length then z else 0 := by
  unfold at0
  rw [List.getD_eq_getElem?_getD, List.getD_eq_getElem?_getD]
  by_cases h : i < l.length
  · rw [if_pos h, List.getElem?_append_left h]
  · rw [if_neg h, List.getElem?_append_right (by omega)]
    by_cases e : i = l.length
    · subst e
      simp
    · rw [if_neg e, List.getElem?_eq_none (by simp; omega)]
      rfl
/-- sizes that are none too small, none too big -/
def Mid (caps : List Int) : Prop := ∀ c ∈ caps, 1 ≤ c ∧ c ≤ 1000000000000
theorem Mid.nil : Mid [] := fun c h => by cases h
theorem Mid.app {caps : List Int} {z : Int} (h : Mid caps) (h1 : 1 ≤ z) (h2 : z ≤ 1000000000000) : Mid (caps ++ [z]) := fun c hc => by
  rcases List.mem_append.mp hc with q | q
  · exact h c q
  · have : c = z := by simpa using q
    subst this
    exact ⟨h1, h2⟩
theorem at0_mem {l : List Int} {i : Nat} (h : i < l.length) : at0 l i ∈ l := List.mem_of_getElem? (at0_get h)
theorem Mid.set {caps : List Int} {i j : Nat} (h : Mid caps) (hj : j < caps.length) : Mid (caps.set i (at0 caps j)) := fun c hc => by
  rcases List.mem_or_eq_of_mem_set hc with q | q
  · exact h c q
  · rw [q]
    exact h _ (at0_mem hj)
theorem Mid.caps {caps : List Int} (h : Mid caps) (h1 : 1 ≤ caps.length) (h6 : caps.length ≤ 6) : Caps caps :=
  ⟨h1, h6, fun i hi => (h _ (at0_mem hi)).1, fun i hi => (h _ (at0_mem hi)).2⟩
/-- starts as far as they are made -/
structure Part (caps : List Int) (p : Int) (st : List Int) : Prop where
  lo : ∀ i, i < st.length → 0 ≤ at0 st i
  hi : ∀ i, i < st.length → at0 st i ≤ at0 caps i * p
theorem Part.nil {caps : List Int} {p : Int} : Part caps p [] := ⟨fun i h => absurd h (Nat.not_lt_zero _), fun i h => absurd h (Nat.not_lt_zero _)⟩
theorem Part.app {caps st : List Int} {p z : Int} (h : Part caps p st) (h0 : 0 ≤ z) (h1 : z ≤ at0 caps st.length * p) : Part caps p (st ++ [z]) := by
  refine ⟨fun i hi => ?_, fun i hi => ?_⟩
  all_goals
    rw [List.length_append] at hi
    rw [at0_app]
    by_cases q : i < st.length
    · rw [if_pos q]
      first | exact h.lo i q | exact h.hi i q
    · have e : i = st.length := by simp at hi; omega
      subst e
      rw [if_neg q, if_pos rfl]
      first | exact h0 | exact h1
theorem Part.stand {caps st : List Int} {p : Int} (h : Part caps p st) (hl : st.length = caps.length) : Stand caps p st :=
  ⟨hl, fun i hi => h.lo i (by omega), fun i hi => h.hi i (by omega)⟩
/-- the words of the deeds -/
inductive Wd where
  | pour | put | draw | change
  deriving DecidableEq
def sixW : List Wd := [.pour, .pour, .pour, .put, .draw, .change]
theorem unit_ok {n : Nat} (h : n < 6) : 1 ≤ at0 [1, 1, 1, 7, 1000000, 100000000000] n ∧ at0 [1, 1, 1, 7, 1000000, 100000000000] n ≤ 100000000000 := by
  have : ∀ n : Fin 6, 1 ≤ at0 [1, 1, 1, 7, 1000000, 100000000000] n.1 ∧ at0 [1, 1, 1, 7, 1000000, 100000000000] n.1 ≤ 100000000000 := by decide
  exact this ⟨n, h⟩
theorem pick4 {a b c d lo hi : Int} {n : Nat} (h : n < 4) (ha : lo ≤ a ∧ a ≤ hi) (hb : lo ≤ b ∧ b ≤ hi) (hc : lo ≤ c ∧ c ≤ hi) (hd : lo ≤ d ∧ d ≤ hi) : lo ≤ at0 [a, b, c, d] n ∧ at0 [a, b, c, d] n ≤ hi := by
  match n, h with
  | 0, _ => exact ha
  | 1, _ => exact hb
  | 2, _ => exact hc
  | 3, _ => exact hd
theorem pick5 {a b c d e lo hi : Int} {n : Nat} (h : n < 5) (ha : lo ≤ a ∧ a ≤ hi) (hb : lo ≤ b ∧ b ≤ hi) (hc : lo ≤ c ∧ c ≤ hi) (hd : lo ≤ d ∧ d ≤ hi) (he : lo ≤ e ∧ e ≤ hi) : lo ≤ at0 [a, b, c, d, e] n ∧ at0 [a, b, c, d, e] n ≤ hi := by
  match n, h with
  | 0, _ => exact ha
  | 1, _ => exact hb
  | 2, _ => exact hc
  | 3, _ => exact hd
  | 4, _ => exact he
end Kp

namespace Kp
def MidN (b : Int) (caps : List Int) : Prop := ∀ c ∈ caps, 1 ≤ c ∧ c ≤ b
theorem MidN.nil {b : Int} : MidN b [] := fun c h => by cases h
theorem MidN.app {b : Int} {caps : List Int} {z : Int} (h : MidN b caps) (h1 : 1 ≤ z) (h2 : z ≤ b) : MidN b (caps ++ [z]) := fun c hc => by
  rcases List.mem_append.mp hc with q | q
  · exact h c q
  · have : c = z := by simpa using q
    subst this
    exact ⟨h1, h2⟩
theorem MidN.set {b : Int} {caps : List Int} {i j : Nat} (h : MidN b caps) (hj : j < caps.length) : MidN b (caps.set i (at0 caps j)) := fun c hc => by
  rcases List.mem_or_eq_of_mem_set hc with q | q
  · exact h c q
  · rw [q]
    exact h _ (at0_mem hj)
theorem MidN.caps {b : Int} {caps : List Int} (h : MidN b caps) (hb : b ≤ 1000000000000) (h1 : 1 ≤ caps.length) (h6 : caps.length ≤ 6) : Caps caps :=
  ⟨h1, h6, fun i hi => (h _ (at0_mem hi)).1, fun i hi => Int.le_trans (h _ (at0_mem hi)).2 hb⟩
/-- the pour as the law's own walk reckons it -/
def stepL (caps : List Int) (p : Int) (st : List Int) : D → List Int
  | .pour a b =>
    let x := if at0 caps b * p < at0 st a + at0 st b then at0 caps b * p else at0 st a + at0 st b
    (st.set b x).set a (at0 st a + at0 st b - x)
  | .put a k => st.set a (if at0 caps a * p < at0 st a + k * p then at0 caps a * p else at0 st a + k * p)
  | .draw a k => st.set a (if 0 > at0 st a - k * p then 0 else at0 st a - k * p)
  | .change a b => (st.set a (at0 st b)).set b (at0 st a)
theorem stepL_act {caps st : List Int} {p : Int} {d : D} (hl : st.length = caps.length) (ok : d.ok caps) : stepL caps p st d = d.act caps p st := by
  cases d with
  | pour a b =>
    obtain ⟨ha, hb, hab⟩ := ok
    simp only [stepL, D.act]
    apply ext0
    · simp
    · intro i hi
      rw [at0_set (by rw [List.length_set]; omega), at0_set (by omega), at0_set (by rw [List.length_set]; omega), at0_set (by omega)]
      by_cases e1 : a = i
      · by_cases e2 : b = i
        · exact absurd (e1.trans e2.symm) hab
        · rw [if_pos e1, if_neg e2, if_pos e1]
          split <;> split <;> omega
      · by_cases e2 : b = i
        · rw [if_neg e1, if_pos e2, if_pos e2]
          split <;> split <;> omega
        · rw [if_neg e1, if_neg e2, if_neg e2, if_neg e1]
  | put a k => rfl
  | draw a k => rfl
  | change a b => rfl
theorem runs_len {caps : List Int} {p : Int} {ds : List D} : ∀ {n : Nat} {st : List Int}, (runs caps p ds n st).length = st.length
  | 0, _ => rfl
  | n + 1, st => run_len.trans (runs_len (n := n))
end Kp

namespace Kp
/-! ### amounts in finer parts, greater houses -/
def mulL (m : Int) (l : List Int) : List Int := l.map (· * m)
theorem at0_mul {m : Int} {l : List Int} {i : Nat} : at0 (mulL m l) i = at0 l i * m := by
  by_cases h : i < l.length
  · exact at0_map h
  · unfold at0 mulL
    rw [List.getD_eq_getElem?_getD, List.getD_eq_getElem?_getD, List.getElem?_eq_none (by simp; omega), List.getElem?_eq_none (by omega)]
    simp
def D.sc (m : Int) : D → D
  | .pour a b => .pour a b
  | .put a k => .put a (k * m)
  | .draw a k => .draw a (k * m)
  | .change a b => .change a b
theorem lt_mul {x y q : Int} (hq : 0 < q) : x * q < y * q ↔ x < y := ⟨fun h => Int.lt_of_mul_lt_mul_right h (Int.le_of_lt hq), fun h => Int.mul_lt_mul_of_pos_right h hq⟩
theorem min_mul {x y q : Int} (hq : 0 < q) : (if x * q < y * q then x * q else y * q) = (if x < y then x else y) * q := by
  by_cases h : x < y
  · rw [if_pos h, if_pos ((lt_mul hq).mpr h)]
  · rw [if_neg h, if_neg (fun z => h ((lt_mul hq).mp z))]
theorem max_mul {x q : Int} (hq : 0 < q) : (if 0 > x * q then 0 else x * q) = (if 0 > x then 0 else x) * q := by
  have e : x * q < 0 ↔ x < 0 := by
    have := @lt_mul x 0 q hq
    rwa [Int.zero_mul] at this
  by_cases h : 0 > x
  · rw [if_pos h, if_pos (e.mpr h), Int.zero_mul]
  · rw [if_neg h, if_neg (fun z => h (e.mp z))]
theorem act_sc {m p p' q : Int} (e : m * p' = p * q) (hq : 0 < q) {caps st : List Int} {d : D} : (d.sc m).act (mulL m caps) p' (mulL q st) = mulL q (d.act caps p st) := by
  have ec : ∀ x : Int, x * m * p' = x * p * q := fun x => by rw [Int.mul_assoc, e, Int.mul_assoc]
  cases d with
  | pour a b =>
    simp only [D.sc, D.act, at0_mul, ec]
    rw [← Int.sub_mul, min_mul hq]
    unfold mulL
    rw [List.map_set, List.map_set, Int.sub_mul, Int.add_mul]
  | put a k =>
    simp only [D.sc, D.act, at0_mul, ec]
    rw [← Int.add_mul, min_mul hq]
    unfold mulL
    rw [List.map_set]
  | draw a k =>
    simp only [D.sc, D.act, at0_mul, ec]
    rw [← Int.sub_mul, max_mul hq]
    unfold mulL
    rw [List.map_set]
  | change a b =>
    simp only [D.sc, D.act, at0_mul]
    unfold mulL
    rw [List.map_set, List.map_set]
theorem run_sc {m p p' q : Int} (e : m * p' = p * q) (hq : 0 < q) {caps : List Int} : ∀ {ds : List D} {st : List Int}, run (mulL m caps) p' (ds.map (D.sc m)) (mulL q st) = mulL q (run caps p ds st)
  | [], _ => rfl
  | d :: ds, st => by
    show run (mulL m caps) p' (ds.map (D.sc m)) ((d.sc m).act (mulL m caps) p' (mulL q st)) = mulL q (run caps p ds (d.act caps p st))
    rw [act_sc e hq]
    exact run_sc e hq
theorem runs_sc {m p p' q : Int} (e : m * p' = p * q) (hq : 0 < q) {caps : List Int} {ds : List D} : ∀ {n : Nat} {st : List Int}, runs (mulL m caps) p' (ds.map (D.sc m)) n (mulL q st) = mulL q (runs caps p ds n st)
  | 0, _ => rfl
  | n + 1, st => by
    show run (mulL m caps) p' (ds.map (D.sc m)) (runs (mulL m caps) p' (ds.map (D.sc m)) n (mulL q st)) = mulL q (run caps p ds (runs caps p ds n st))
    rw [runs_sc e hq, run_sc e hq]
theorem mulL_one (l : List Int) : mulL 1 l = l := by
  unfold mulL
  simp
theorem sc_one (ds : List D) : ds.map (D.sc 1) = ds := by
  have : D.sc 1 = id := by
    funext d
    cases d <;> simp [D.sc]
  rw [this, List.map_id]
theorem runs_fine {p q : Int} (hq : 0 < q) {caps st : List Int} {ds : List D} {n : Nat} : runs caps (p * q) ds n (mulL q st) = mulL q (runs caps p ds n st) := by
  have := @runs_sc 1 p (p * q) q (by rw [Int.one_mul]) hq caps ds n st
  rw [mulL_one, sc_one] at this
  exact this
theorem runs_wide {p q : Int} (hq : 0 < q) {caps st : List Int} {ds : List D} {n : Nat} : runs (mulL q caps) p (ds.map (D.sc q)) n (mulL q st) = mulL q (runs caps p ds n st) :=
  runs_sc (Int.mul_comm q p) hq
theorem runs_grain {p : Int} {caps st : List Int} {ds : List D} {n : Nat} : runs (mulL p caps) 1 (ds.map (D.sc p)) n st = runs caps p ds n st := by
  have := @runs_sc p p 1 1 rfl (by decide) caps ds n st
  rw [mulL_one, mulL_one] at this
  exact this
theorem stand_fine {caps st : List Int} {p q : Int} (hq : 0 < q) (h : Stand caps p st) : Stand caps (p * q) (mulL q st) := by
  refine ⟨by unfold mulL; rw [List.length_map, h.len], fun i hi => ?_, fun i hi => ?_⟩
  · rw [at0_mul]
    exact Int.mul_nonneg (h.lo i hi) (Int.le_of_lt hq)
  · rw [at0_mul, ← Int.mul_assoc]
    exact Int.mul_le_mul_of_nonneg_right (h.hi i hi) (Int.le_of_lt hq)
theorem stand_wide {caps st : List Int} {p q : Int} (hq : 0 < q) (h : Stand caps p st) : Stand (mulL q caps) p (mulL q st) := by
  have ll : (mulL q caps).length = caps.length := by unfold mulL; rw [List.length_map]
  refine ⟨by rw [ll]; unfold mulL; rw [List.length_map, h.len], fun i hi => ?_, fun i hi => ?_⟩
  · rw [at0_mul]
    exact Int.mul_nonneg (h.lo i (by omega)) (Int.le_of_lt hq)
  · rw [at0_mul, at0_mul, Int.mul_assoc, Int.mul_comm q p, ← Int.mul_assoc]
    exact Int.mul_le_mul_of_nonneg_right (h.hi i (by omega)) (Int.le_of_lt hq)
theorem stand_grain {caps st : List Int} {p : Int} (h : Stand caps p st) : Stand (mulL p caps) 1 st := by
  have ll : (mulL p caps).length = caps.length := by unfold mulL; rw [List.length_map]
  refine ⟨by rw [ll, h.len], fun i hi => h.lo i (by omega), fun i hi => ?_⟩
  rw [at0_mul, Int.mul_one]
  exact h.hi i (by omega)
theorem caps_mul {caps : List Int} {q : Int} (h : Caps caps) (h12 : ∀ i, i < caps.length → at0 caps i ≤ 12) (q1 : 1 ≤ q) (q2 : q ≤ 70000000000) : Caps (mulL q caps) := by
  have ll : (mulL q caps).length = caps.length := by unfold mulL; rw [List.length_map]
  refine ⟨by rw [ll]; exact h.l1, by rw [ll]; exact h.l6, fun i hi => ?_, fun i hi => ?_⟩
  · rw [at0_mul]
    have := Int.mul_le_mul (h.lo i (by omega)) q1 (by decide) (by have := h.lo i (by omega); omega)
    simpa using this
  · rw [at0_mul]
    have := Int.mul_le_mul (h12 i (by omega)) q2 (by omega) (by decide)
    omega
end Kp

namespace Kp
theorem sum_set : ∀ {l : List Int} {i : Nat} {v : Int}, i < l.length → (l.set i v).sum = l.sum - at0 l i + v
  | [], i, v, h => absurd h (Nat.not_lt_zero _)
  | x :: l, 0, v, _ => by
    show v + l.sum = x + l.sum - x + v
    omega
  | x :: l, i + 1, v, h => by
    have ih := sum_set (l := l) (i := i) (v := v) (by simpa using h)
    show x + (l.set i v).sum = x + l.sum - at0 l i + v
    rw [ih]
    omega
def D.isPC : D → Bool
  | .pour _ _ => true
  | .change _ _ => true
  | _ => false
def D.putK : D → Option Int
  | .put _ k => some k
  | _ => none
def D.drawK : D → Option Int
  | .draw _ k => some k
  | _ => none
def D.up (p : Int) : D → Int
  | .put _ k => k * p
  | _ => 0
def D.dn (p : Int) : D → Int
  | .draw _ k => k * p
  | _ => 0
theorem act_sum {caps st : List Int} {p : Int} {d : D} (hp : 1 ≤ p) (h : Stand caps p st) (ok : d.ok caps) : st.sum - d.dn p ≤ (d.act caps p st).sum ∧ (d.act caps p st).sum ≤ st.sum + d.up p := by
  have hl := h.len
  cases d with
  | pour a b =>
    obtain ⟨ha, hb, hab⟩ := ok
    simp only [D.act, D.dn, D.up]
    rw [sum_set (by rw [List.length_set]; omega), sum_set (by omega), at0_set (by omega), if_neg hab]
    omega
  | put a k =>
    obtain ⟨ha, hk, _⟩ := ok
    have a0 := h.lo a ha
    have a1 := h.hi a ha
    have kp : 0 ≤ k * p := Int.mul_nonneg (by omega) (by omega)
    simp only [D.act, D.dn, D.up]
    rw [sum_set (by omega)]
    split <;> omega
  | draw a k =>
    obtain ⟨ha, hk, _⟩ := ok
    have a0 := h.lo a ha
    have kp : 0 ≤ k * p := Int.mul_nonneg (by omega) (by omega)
    simp only [D.act, D.dn, D.up]
    rw [sum_set (by omega)]
    split <;> omega
  | change a b =>
    obtain ⟨ha, hb, hab, _⟩ := ok
    simp only [D.act, D.dn, D.up]
    rw [sum_set (by rw [List.length_set]; omega), sum_set (by omega), at0_set (by omega), if_neg hab]
    omega
theorem run_sum {caps : List Int} {p : Int} (hp : 1 ≤ p) : ∀ {ds : List D} {st : List Int}, Stand caps p st → (∀ d ∈ ds, d.ok caps) →
    st.sum - (ds.map (D.dn p)).sum ≤ (run caps p ds st).sum ∧ (run caps p ds st).sum ≤ st.sum + (ds.map (D.up p)).sum
  | [], st, _, _ => by
    show st.sum - 0 ≤ st.sum ∧ st.sum ≤ st.sum + 0
    omega
  | d :: ds, st, h, ok => by
    have o1 := ok d (List.mem_cons_self ..)
    have a := act_sum hp h o1
    have b := run_sum (ds := ds) hp (act_stand hp h o1) fun e he => ok e (List.mem_cons_of_mem _ he)
    show st.sum - (d.dn p + (ds.map (D.dn p)).sum) ≤ (run caps p ds (d.act caps p st)).sum ∧ (run caps p ds (d.act caps p st)).sum ≤ st.sum + (d.up p + (ds.map (D.up p)).sum)
    omega
def putsL (ds : List D) : List Int := ds.filterMap D.putK
def drawsL (ds : List D) : List Int := ds.filterMap D.drawK
theorem ups {p : Int} : ∀ ds : List D, (ds.map (D.up p)).sum = p * (putsL ds).sum
  | [] => (Int.mul_zero p).symm
  | d :: ds => by
    have ih := ups (p := p) ds
    show d.up p + (ds.map (D.up p)).sum = p * (putsL (d :: ds)).sum
    rw [ih]
    cases d with
    | put a k =>
      show k * p + p * (putsL ds).sum = p * (k + (putsL ds).sum)
      rw [Int.mul_add, Int.mul_comm k p]
    | pour a b => exact Int.zero_add _
    | draw a k => exact Int.zero_add _
    | change a b => exact Int.zero_add _
theorem dns {p : Int} : ∀ ds : List D, (ds.map (D.dn p)).sum = p * (drawsL ds).sum
  | [] => (Int.mul_zero p).symm
  | d :: ds => by
    have ih := dns (p := p) ds
    show d.dn p + (ds.map (D.dn p)).sum = p * (drawsL (d :: ds)).sum
    rw [ih]
    cases d with
    | draw a k =>
      show k * p + p * (drawsL ds).sum = p * (k + (drawsL ds).sum)
      rw [Int.mul_add, Int.mul_comm k p]
    | pour a b => exact Int.zero_add _
    | put a k => exact Int.zero_add _
    | change a b => exact Int.zero_add _
theorem pc_sums {p : Int} {ds : List D} : ((ds.filter D.isPC).map (D.dn p)).sum = 0 ∧ ((ds.filter D.isPC).map (D.up p)).sum = 0 := by
  induction ds with
  | nil => exact ⟨rfl, rfl⟩
  | cons d ds ih =>
    cases d with
    | pour a b => exact ⟨(Int.zero_add _).trans ih.1, (Int.zero_add _).trans ih.2⟩
    | change a b => exact ⟨(Int.zero_add _).trans ih.1, (Int.zero_add _).trans ih.2⟩
    | put a k => exact ih
    | draw a k => exact ih
theorem runs_pc {caps : List Int} {p : Int} (hp : 1 ≤ p) {ds : List D} (ok : ∀ d ∈ ds, d.ok caps) : ∀ {n : Nat} {st : List Int}, Stand caps p st → (runs caps p (ds.filter D.isPC) n st).sum = st.sum
  | 0, _, _ => rfl
  | n + 1, st, h => by
    have ok' : ∀ d ∈ ds.filter D.isPC, d.ok caps := fun d hd => ok d (List.mem_filter.mp hd).1
    have ih := runs_pc hp ok (n := n) h
    have b := run_sum hp (runs_stand (n := n) hp ok' h) ok'
    have e := pc_sums (p := p) (ds := ds)
    show (run caps p (ds.filter D.isPC) (runs caps p (ds.filter D.isPC) n st)).sum = st.sum
    omega
/-- the jars that a deed names -/
def D.names : D → List Int
  | .pour a b => [(a : Int), (b : Int)]
  | .put a _ => [(a : Int)]
  | .draw a _ => [(a : Int)]
  | .change a b => [(a : Int), (b : Int)]
theorem act_else {caps st : List Int} {p : Int} {d : D} {i : Nat} (hl : st.length = caps.length) (ok : d.ok caps) (h : (i : Int) ∉ d.names) : at0 (d.act caps p st) i = at0 st i := by
  cases d with
  | pour a b =>
    obtain ⟨ha, hb, _⟩ := ok
    simp only [D.names, List.mem_cons, List.not_mem_nil, or_false, not_or] at h
    simp only [D.act]
    rw [at0_set (by rw [List.length_set]; omega), at0_set (by omega), if_neg (by omega), if_neg (by omega)]
  | put a k =>
    obtain ⟨ha, _⟩ := ok
    simp only [D.names, List.mem_cons, List.not_mem_nil, or_false] at h
    simp only [D.act]
    rw [at0_set (by omega), if_neg (by omega)]
  | draw a k =>
    obtain ⟨ha, _⟩ := ok
    simp only [D.names, List.mem_cons, List.not_mem_nil, or_false] at h
    simp only [D.act]
    rw [at0_set (by omega), if_neg (by omega)]
  | change a b =>
    obtain ⟨ha, hb, _⟩ := ok
    simp only [D.names, List.mem_cons, List.not_mem_nil, or_false, not_or] at h
    simp only [D.act]
    rw [at0_set (by rw [List.length_set]; omega), at0_set (by omega), if_neg (by omega), if_neg (by omega)]
theorem run_else {caps : List Int} {p : Int} {i : Nat} : ∀ {ds : List D} {st : List Int}, st.length = caps.length → (∀ d ∈ ds, d.ok caps) → (i : Int) ∉ ds.flatMap D.names → at0 (run caps p ds st) i = at0 st i
  | [], _, _, _, _ => rfl
  | d :: ds, st, hl, ok, h => by
    rw [List.flatMap_cons, List.mem_append, not_or] at h
    have e := run_else (p := p) (ds := ds) (st := d.act caps p st) (i := i) (act_len.trans hl) (fun e he => ok e (List.mem_cons_of_mem _ he)) h.2
    show at0 (run caps p ds (d.act caps p st)) i = at0 st i
    rw [e, act_else hl (ok d (List.mem_cons_self ..)) h.1]
theorem runs_else {caps : List Int} {p : Int} {i : Nat} {ds : List D} (ok : ∀ d ∈ ds, d.ok caps) (h : (i : Int) ∉ ds.flatMap D.names) : ∀ {n : Nat} {st : List Int}, st.length = caps.length → at0 (runs caps p ds n st) i = at0 st i
  | 0, _, _ => rfl
  | n + 1, st, hl => by
    show at0 (run caps p ds (runs caps p ds n st)) i = at0 st i
    rw [run_else (runs_len.trans hl) ok h, runs_else ok h hl]
end Kp

namespace Kp
/-- nowhere more -/
def Below (x y : List Int) : Prop := x.length = y.length ∧ ∀ i, i < x.length → at0 x i ≤ at0 y i
theorem act_below {caps x y : List Int} {p : Int} {d : D} (hp : 1 ≤ p) (hx : Stand caps p x) (hy : Stand caps p y) (ok : d.ok caps) (h : Below x y) : Below (d.act caps p x) (d.act caps p y) := by
  have lx := hx.len
  have ly := hy.len
  refine ⟨by rw [act_len, act_len, lx, ly], fun i hi => ?_⟩
  rw [act_len] at hi
  have hi0 := h.2 i hi
  cases d with
  | pour a b =>
    obtain ⟨ha, hb, hab⟩ := ok
    have a0 := h.2 a (by omega)
    have b0 := h.2 b (by omega)
    have xa := hx.hi b hb
    have ya := hy.hi b hb
    simp only [D.act]
    rw [at0_set (by rw [List.length_set]; omega), at0_set (by omega), at0_set (by rw [List.length_set]; omega), at0_set (by omega)]
    by_cases e1 : b = i
    · subst e1
      rw [if_pos rfl, if_pos rfl]
      split <;> split <;> omega
    · rw [if_neg e1, if_neg e1]
      by_cases e2 : a = i
      · subst e2
        rw [if_pos rfl, if_pos rfl]
        split <;> split <;> omega
      · rw [if_neg e2, if_neg e2]
        exact hi0
  | put a k =>
    obtain ⟨ha, hk, _⟩ := ok
    have a0 := h.2 a (by omega)
    simp only [D.act]
    rw [at0_set (by omega), at0_set (by omega)]
    by_cases e1 : a = i
    · subst e1
      rw [if_pos rfl, if_pos rfl]
      split <;> split <;> omega
    · rw [if_neg e1, if_neg e1]
      exact hi0
  | draw a k =>
    obtain ⟨ha, hk, _⟩ := ok
    have a0 := h.2 a (by omega)
    simp only [D.act]
    rw [at0_set (by omega), at0_set (by omega)]
    by_cases e1 : a = i
    · subst e1
      rw [if_pos rfl, if_pos rfl]
      split <;> split <;> omega
    · rw [if_neg e1, if_neg e1]
      exact hi0
  | change a b =>
    obtain ⟨ha, hb, hab, _⟩ := ok
    have a0 := h.2 a (by omega)
    have b0 := h.2 b (by omega)
    simp only [D.act]
    rw [at0_set (by rw [List.length_set]; omega), at0_set (by omega), at0_set (by rw [List.length_set]; omega), at0_set (by omega)]
    by_cases e1 : b = i
    · rw [if_pos e1, if_pos e1]
      exact a0
    · rw [if_neg e1, if_neg e1]
      by_cases e2 : a = i
      · rw [if_pos e2, if_pos e2]
        exact b0
      · rw [if_neg e2, if_neg e2]
        exact hi0
theorem run_below {caps : List Int} {p : Int} (hp : 1 ≤ p) : ∀ {ds : List D} {x y : List Int}, Stand caps p x → Stand caps p y → (∀ d ∈ ds, d.ok caps) → Below x y → Below (run caps p ds x) (run caps p ds y)
  | [], _, _, _, _, _, h => h
  | d :: ds, x, y, hx, hy, ok, h => by
    have od := ok d (List.mem_cons_self ..)
    exact run_below (ds := ds) (x := d.act caps p x) (y := d.act caps p y) hp (act_stand hp hx od) (act_stand hp hy od) (fun e he => ok e (List.mem_cons_of_mem _ he)) (act_below hp hx hy od h)
/-- the differences, by place -/
def difs (x y : List Int) : List Int := List.zipWith (fun a b => ((b - a).natAbs : Int)) x y
theorem difs_len {x y : List Int} (h : x.length = y.length) : (difs x y).length = x.length := by
  unfold difs
  rw [List.length_zipWith]
  omega
theorem difs_set : ∀ {x y : List Int} {i : Nat} {u v : Int}, difs (x.set i u) (y.set i v) = (difs x y).set i ((v - u).natAbs : Int)
  | [], [], _, _, _ => by simp [difs]
  | [], _ :: _, _, _, _ => by simp [difs]
  | _ :: _, [], _, _, _ => by simp [difs]
  | a :: x, b :: y, 0, u, v => by simp [difs]
  | a :: x, b :: y, i + 1, u, v => by
    have := difs_set (x := x) (y := y) (i := i) (u := u) (v := v)
    simp only [difs] at this
    simp [difs, this]
theorem difs_at {x y : List Int} {i : Nat} (hx : i < x.length) (hy : i < y.length) : at0 (difs x y) i = ((at0 y i - at0 x i).natAbs : Int) := by
  refine at0_of ?_
  unfold difs
  rw [List.getElem?_zipWith, at0_get hx, at0_get hy]
def apart (x y : List Int) : Int := (difs x y).sum
theorem apart_set {x y : List Int} {i : Nat} {u v : Int} (e : x.length = y.length) (h : i < x.length) : apart (x.set i u) (y.set i v) = apart x y - ((at0 y i - at0 x i).natAbs : Int) + ((v - u).natAbs : Int) := by
  unfold apart
  rw [difs_set, sum_set (by rw [difs_len e]; exact h), difs_at h (by omega)]
theorem act_apart {caps x y : List Int} {p : Int} {d : D} (hx : Stand caps p x) (hy : Stand caps p y) (ok : d.ok caps) : apart (d.act caps p x) (d.act caps p y) ≤ apart x y := by
  have lx := hx.len
  have ly := hy.len
  have e : x.length = y.length := by omega
  cases d with
  | pour a b =>
    obtain ⟨ha, hb, hab⟩ := ok
    have xa := hx.hi b hb
    have ya := hy.hi b hb
    have xl := hx.lo a ha
    have yl := hy.lo a ha
    simp only [D.act]
    rw [apart_set (by rw [List.length_set, List.length_set]; exact e) (by rw [List.length_set]; omega), apart_set e (by omega), at0_set (by omega), at0_set (by omega), if_neg hab, if_neg hab]
    split <;> split <;> omega
  | put a k =>
    obtain ⟨ha, hk, _⟩ := ok
    have xh := hx.hi a ha
    have yh := hy.hi a ha
    simp only [D.act]
    rw [apart_set e (by omega)]
    split <;> split <;> omega
  | draw a k =>
    obtain ⟨ha, hk, _⟩ := ok
    have xh := hx.lo a ha
    have yh := hy.lo a ha
    simp only [D.act]
    rw [apart_set e (by omega)]
    split <;> split <;> omega
  | change a b =>
    obtain ⟨ha, hb, hab, _⟩ := ok
    simp only [D.act]
    rw [apart_set (by rw [List.length_set, List.length_set]; exact e) (by rw [List.length_set]; omega), apart_set e (by omega), at0_set (by omega), at0_set (by omega), if_neg hab, if_neg hab]
    omega
theorem run_apart {caps : List Int} {p : Int} (hp : 1 ≤ p) : ∀ {ds : List D} {x y : List Int}, Stand caps p x → Stand caps p y → (∀ d ∈ ds, d.ok caps) → apart (run caps p ds x) (run caps p ds y) ≤ apart x y
  | [], _, _, _, _, _ => Int.le_refl _
  | d :: ds, x, y, hx, hy, ok => by
    have od := ok d (List.mem_cons_self ..)
    exact Int.le_trans (run_apart (ds := ds) (x := d.act caps p x) (y := d.act caps p y) hp (act_stand hp hx od) (act_stand hp hy od) (fun e he => ok e (List.mem_cons_of_mem _ he))) (act_apart hx hy od)
/-- the law's own step -/
def stepW (caps : List Int) (p : Int) (st : List Int) : D → List Int
  | .change a b => (st.set a (at0 st b)).set b (at0 st a)
  | .pour a b =>
    let m := if at0 caps b * p < at0 st a + at0 st b then at0 caps b * p else at0 st a + at0 st b
    (st.set b m).set a (at0 st a + at0 st b - at0 (st.set b m) b)
  | .put a k => st.set a (if at0 st a + k * p < at0 caps a * p then at0 st a + k * p else at0 caps a * p)
  | .draw a k => st.set a (if at0 st a - k * p > 0 then at0 st a - k * p else 0)
theorem stepW_act {caps st : List Int} {p : Int} {d : D} (hl : st.length = caps.length) (ok : d.ok caps) : stepW caps p st d = d.act caps p st := by
  cases d with
  | pour a b =>
    obtain ⟨ha, hb, hab⟩ := ok
    simp only [stepW, D.act]
    refine ext0 (by simp) fun i hi => ?_
    have q : at0 (st.set b (if at0 caps b * p < at0 st a + at0 st b then at0 caps b * p else at0 st a + at0 st b)) b = (if at0 caps b * p < at0 st a + at0 st b then at0 caps b * p else at0 st a + at0 st b) := by
      rw [at0_set (by omega), if_pos rfl]
    rw [q, at0_set (by rw [List.length_set]; omega), at0_set (by omega), at0_set (by rw [List.length_set]; omega), at0_set (by omega)]
    by_cases e1 : b = i
    · subst e1
      rw [if_neg hab, if_pos rfl, if_pos rfl]
      split <;> split <;> omega
    · rw [if_neg e1, if_neg e1]
      by_cases e2 : a = i
      · rw [if_pos e2, if_pos e2]
        split <;> split <;> omega
      · rw [if_neg e2, if_neg e2]
  | put a k =>
    simp only [stepW, D.act]
    congr 1
    split <;> split <;> omega
  | draw a k =>
    simp only [stepW, D.act]
    congr 1
    split <;> split <;> omega
  | change a b => rfl
end Kp

/-! Kp: rows done again and again: tails and rings. No Python here. -/
namespace Kp
def it {α : Type} (f : α → α) : Nat → α → α
  | 0, x => x
  | n + 1, x => f (it f n x)
theorem it_add {α : Type} {f : α → α} {x : α} {m : Nat} : ∀ n, it f (m + n) x = it f n (it f m x)
  | 0 => rfl
  | n + 1 => congrArg f (it_add n)
/-- the tail t and the ring n of x, all stands before the first that comes again being different -/
structure Fate {α : Type} (f : α → α) (x : α) (t n : Nat) : Prop where
  pos : 1 ≤ n
  ring : it f (t + n) x = it f t x
  dist : ∀ i j, i < j → j < t + n → it f i x ≠ it f j x
theorem Fate.of_fix {α : Type} {f : α → α} {x : α} {t : Nat} (δ : α → Int) (h1 : f (it f t x) = it f t x) (h2 : ∀ i j, i < j → j ≤ t → δ (it f i x) ≠ δ (it f j x)) : Fate f x t 1 :=
  ⟨Nat.le_refl _, h1, fun i j h k e => h2 i j h (by omega) (congrArg δ e)⟩
/-- so many times a goes into d, rounded up -/
def over (a d : Int) : Int := 0 - (0 - a) / d
theorem over_lo {a d : Int} (hd : 0 < d) : a ≤ over a d * d := by
  have h1 := Int.emod_add_mul_ediv (0 - a) d
  have h2 := Int.emod_nonneg (0 - a) (show d ≠ 0 by omega)
  have h3 := Int.mul_comm ((0 - a) / d) d
  have h4 : over a d * d = 0 - ((0 - a) / d) * d := by unfold over; rw [Int.sub_mul, Int.zero_mul]
  omega
theorem over_hi {a d : Int} (hd : 0 < d) : over a d * d < a + d := by
  have h1 := Int.emod_add_mul_ediv (0 - a) d
  have h2 := Int.emod_lt_of_pos (0 - a) hd
  have h3 := Int.mul_comm ((0 - a) / d) d
  have h4 : over a d * d = 0 - ((0 - a) / d) * d := by unfold over; rw [Int.sub_mul, Int.zero_mul]
  omega
theorem over_pos {a d : Int} (hd : 0 < d) (ha : 0 ≤ a) : 0 ≤ over a d := by
  have h1 := over_lo (a := a) hd
  rcases Int.lt_or_le (over a d) 0 with h | h
  · have := Int.mul_neg_of_neg_of_pos h hd
    omega
  · exact h
/-- what falls by d each time, to nought: how much is left behind k times -/
theorem fall {α : Type} {f : α → α} {x : α} {d : Int} (δ : α → Int) (P : α → Prop) (hd : 0 < d) (p0 : P x) (ps : ∀ y, P y → P (f y)) (hs : ∀ y, P y → δ (f y) = if d < δ y then δ y - d else 0) (h0 : 0 ≤ δ x) : ∀ k : Nat, P (it f k x) ∧ δ (it f k x) = if (k : Int) * d < δ x then δ x - (k : Int) * d else 0
  | 0 => ⟨p0, by
    show δ x = if ((0 : Nat) : Int) * d < δ x then δ x - ((0 : Nat) : Int) * d else 0
    rw [show ((0 : Nat) : Int) * d = 0 from by simp]
    split <;> omega⟩
  | k + 1 => by
    obtain ⟨h1, h2⟩ := fall δ P hd p0 ps hs h0 k
    refine ⟨ps _ h1, ?_⟩
    show δ (f (it f k x)) = _
    rw [hs _ h1, h2]
    have e : ((k + 1 : Nat) : Int) * d = (k : Int) * d + d := by rw [Int.natCast_add, Int.add_mul]; simp
    rw [e]
    by_cases c : (k : Int) * d < δ x
    · rw [if_pos c]
      by_cases c2 : d < δ x - (k : Int) * d
      · rw [if_pos c2, if_pos (by omega)]
        omega
      · rw [if_neg c2, if_neg (by omega)]
    · rw [if_neg c, if_neg (by omega), if_neg (by omega)]
/-- its fate -/
theorem fall_fate {α : Type} {f : α → α} {x : α} {d : Int} (δ : α → Int) (P : α → Prop) (hd : 0 < d) (p0 : P x) (ps : ∀ y, P y → P (f y)) (hs : ∀ y, P y → δ (f y) = if d < δ y then δ y - d else 0) (h0 : 0 ≤ δ x)
    (fix : ∀ y, P y → δ y = 0 → f y = y) : Fate f x (over (δ x) d).toNat 1 := by
  have F := fall δ P hd p0 ps hs h0
  have o0 := over_pos hd h0
  have o1 := over_lo (a := δ x) hd
  have o2 := over_hi (a := δ x) hd
  have oe : (((over (δ x) d).toNat : Nat) : Int) = over (δ x) d := by omega
  refine Fate.of_fix δ (fix _ (F _).1 ?_) ?_
  · rw [(F _).2, oe, if_neg (by omega)]
  · intro i j hij hj e
    rw [(F i).2, (F j).2] at e
    have ij : (i : Int) * d + d ≤ (j : Int) * d := by
      have : ((i + 1 : Nat) : Int) * d ≤ (j : Int) * d := Int.mul_le_mul_of_nonneg_right (by omega) (by omega)
      rw [Int.natCast_add, Int.add_mul] at this
      simpa using this
    have jt : (j : Int) * d ≤ over (δ x) d * d := Int.mul_le_mul_of_nonneg_right (by omega) (by omega)
    rw [if_pos (by omega)] at e
    split at e <;> omega
/-! ### pigeons -/
theorem pigeon : ∀ (m : Nat) (l : List Nat), (∀ x ∈ l, x < m) → l.Nodup → l.length ≤ m
  | 0, [], _, _ => Nat.le_refl _
  | 0, x :: _, h, _ => absurd (h x (List.mem_cons_self ..)) (Nat.not_lt_zero _)
  | m + 1, l, h, nd => by
    have h1 : ∀ x ∈ l.erase m, x < m := fun x hx => by
      have a := h x (List.mem_of_mem_erase hx)
      have b : x ≠ m := fun z => by
        subst z
        exact (List.Nodup.not_mem_erase nd) hx
      omega
    have h2 := pigeon m (l.erase m) h1 (nd.erase _)
    by_cases c : m ∈ l
    · rw [List.length_erase_of_mem c] at h2
      omega
    · rw [List.erase_of_not_mem c] at h2
      omega
theorem it_inj {f : Nat → Nat} {m : Nat} (lt : ∀ i, i < m → f i < m) (inj : ∀ i j, i < m → j < m → f i = f j → i = j) : ∀ (k i j : Nat), i < m → j < m → it f k i = it f k j → i = j
  | 0, _, _, _, _, h => h
  | k + 1, i, j, hi, hj, h => by
    have lk : ∀ (k i : Nat), i < m → it f k i < m := fun k i hi => by
      induction k with
      | zero => exact hi
      | succ k ih => exact lt _ ih
    exact it_inj lt inj k i j hi hj (inj _ _ (lk k i hi) (lk k j hj) h)
theorem it_mul {α : Type} {f : α → α} {x : α} {p : Nat} (h : it f p x = x) : ∀ q, it f (p * q) x = x
  | 0 => rfl
  | q + 1 => by
    rw [Nat.mul_succ, it_add, it_mul h q, h]
/-- a turn of at most six places is over after sixty times -/
theorem sixty {f : Nat → Nat} {m i : Nat} (m6 : m ≤ 6) (lt : ∀ i, i < m → f i < m) (inj : ∀ i j, i < m → j < m → f i = f j → i = j) (hi : i < m) : it f 60 i = i := by
  have lk : ∀ (k : Nat), it f k i < m := fun k => by
    induction k with
    | zero => exact hi
    | succ k ih => exact lt _ ih
  have ex : ∃ a b, a < b ∧ b ≤ 6 ∧ it f a i = it f b i := by
    refine Classical.byContradiction fun no => ?_
    have nd : ((List.range 7).map fun k => it f k i).Nodup := by
      rw [List.nodup_iff_pairwise_ne, List.pairwise_map]
      refine List.Pairwise.imp_of_mem ?_ (List.pairwise_lt_range (n := 7))
      intro a b ha hb hab e
      exact no ⟨a, b, hab, by have := List.mem_range.mp hb; omega, e⟩
    have := pigeon m _ (fun x hx => by obtain ⟨k, _, rfl⟩ := List.mem_map.mp hx; exact lk k) nd
    rw [List.length_map, List.length_range] at this
    omega
  obtain ⟨a, b, hab, b6, e⟩ := ex
  have e1 : it f (b - a) i = i := by
    have : it f b i = it f a (it f (b - a) i) := by rw [← it_add, show b - a + a = b by omega]
    rw [this] at e
    exact (it_inj lt inj a i (it f (b - a) i) hi (lk _) e).symm
  have : b - a = 1 ∨ b - a = 2 ∨ b - a = 3 ∨ b - a = 4 ∨ b - a = 5 ∨ b - a = 6 := by omega
  rcases this with h | h | h | h | h | h <;> rw [h] at e1
  · exact it_mul e1 60
  · exact it_mul e1 30
  · exact it_mul e1 20
  · exact it_mul e1 15
  · exact it_mul e1 12
  · exact it_mul e1 10
end Kp

/-! Kp: the fates of three kinds of rows. No Python here. -/
namespace Kp
theorem runs_it {caps : List Int} {p : Int} {ds : List D} {st : List Int} : ∀ n, runs caps p ds n st = it (run caps p ds) n st
  | 0 => rfl
  | n + 1 => congrArg (run caps p ds) (runs_it n)
theorem over_few {a d : Int} {n : Int} (hd : 0 < d) (h : a ≤ n * d) : over a d ≤ n := by
  have h1 := over_hi (a := a) hd
  rcases Int.lt_or_le n (over a d) with c | c
  · have : (n + 1) * d ≤ over a d * d := Int.mul_le_mul_of_nonneg_right (by omega) (by omega)
    rw [Int.add_mul] at this
    omega
  · exact c
theorem over_three {a d : Int} : over (a * 3) (d * 3) = over a d := by
  unfold over
  have : (0 - a * 3) / (d * 3) = (0 - a) / d := by
    rw [show 0 - a * 3 = (0 - a) * 3 by omega, Int.mul_ediv_mul_of_pos_left _ _ (by decide)]
  rw [this]
/-- how often, at a distance -/
def tailAt (away d : Int) : Int := if away > 0 then over away d else if away ≠ 0 then 1 else 0
/-- one jar, more put in than drawn out -/
theorem up_run {S l s p x : Int} (hp : 1 ≤ p) (l0 : 0 ≤ l) (lS : l ≤ S) (s1 : 1 ≤ s) (x0 : 0 ≤ x) : run [S] p [.put 0 (l + s), .draw 0 l] [x] = [if (S - l) * p < x + s * p then (S - l) * p else x + s * p] := by
  have e1 : (l + s) * p = l * p + s * p := Int.add_mul ..
  have e2 : (S - l) * p = S * p - l * p := Int.sub_mul ..
  have h1 : 0 ≤ l * p := Int.mul_nonneg l0 (by omega)
  have h2 : l * p ≤ S * p := Int.mul_le_mul_of_nonneg_right lS (by omega)
  have h3 : 0 ≤ s * p := Int.mul_nonneg (by omega) (by omega)
  show [if 0 > (if S * p < x + (l + s) * p then S * p else x + (l + s) * p) - l * p then 0 else (if S * p < x + (l + s) * p then S * p else x + (l + s) * p) - l * p] = _
  rw [e1, e2]
  congr 1
  by_cases c : S * p < x + (l * p + s * p)
  · rw [if_pos c, if_neg (by omega), if_pos (by omega)]
  · rw [if_neg c, if_neg (by omega), if_neg (by omega)]
    omega
theorem down_run {S l s p x : Int} (hp : 1 ≤ p) (l0 : 0 ≤ l) (lS : l ≤ S) (s1 : 1 ≤ s) (x0 : 0 ≤ x) (xS : x ≤ S * p) : run [S] p [.draw 0 (l + s), .put 0 l] [x] = [if x - s * p < l * p then l * p else x - s * p] := by
  have e1 : (l + s) * p = l * p + s * p := Int.add_mul ..
  have h1 : 0 ≤ l * p := Int.mul_nonneg l0 (by omega)
  have h2 : l * p ≤ S * p := Int.mul_le_mul_of_nonneg_right lS (by omega)
  have h3 : 0 ≤ s * p := Int.mul_nonneg (by omega) (by omega)
  show [if S * p < (if 0 > x - (l + s) * p then 0 else x - (l + s) * p) + l * p then S * p else (if 0 > x - (l + s) * p then 0 else x - (l + s) * p) + l * p] = _
  rw [e1]
  congr 1
  by_cases c : 0 > x - (l * p + s * p)
  · rw [if_pos c, if_neg (by omega), if_pos (by omega)]
    omega
  · rw [if_neg c, if_neg (by omega), if_neg (by omega)]
    omega
theorem up_fate {S l s p x : Int} (hp : 1 ≤ p) (l0 : 0 ≤ l) (lS : l ≤ S) (s1 : 1 ≤ s) (x0 : 0 ≤ x) : Fate (run [S] p [.put 0 (l + s), .draw 0 l]) [x] (tailAt ((S - l) * p - x) (s * p)).toNat 1 := by
  have d0 : 0 < s * p := Int.mul_pos (by omega) (by omega)
  have G0 : 0 ≤ (S - l) * p := Int.mul_nonneg (by omega) (by omega)
  have R : ∀ x, 0 ≤ x → run [S] p [.put 0 (l + s), .draw 0 l] [x] = [if (S - l) * p < x + s * p then (S - l) * p else x + s * p] := fun x h => up_run hp l0 lS s1 h
  generalize (S - l) * p = G at R G0 ⊢
  generalize s * p = d at R d0 ⊢
  unfold tailAt
  by_cases c : G - x > 0
  · rw [if_pos c]
    exact fall_fate (fun st => G - at0 st 0) (fun st => ∃ v, st = [v] ∧ 0 ≤ v ∧ v ≤ G) d0 ⟨x, rfl, x0, by omega⟩ (by
      rintro y ⟨v, rfl, v0, vG⟩
      rw [R v v0]
      exact ⟨_, rfl, by split <;> omega, by split <;> omega⟩) (by
      rintro y ⟨v, rfl, v0, vG⟩
      rw [R v v0]
      show G - (if G < v + d then G else v + d) = if d < G - v then G - v - d else 0
      split <;> split <;> omega) (by show 0 ≤ G - x; omega) (by
      rintro y ⟨v, rfl, v0, vG⟩ e
      have e : G - v = 0 := e
      rw [R v v0]
      congr 1
      split <;> omega)
  · rw [if_neg c]
    by_cases c2 : G - x ≠ 0
    · rw [if_pos c2]
      have e1 : run [S] p [.put 0 (l + s), .draw 0 l] [x] = [G] := by
        rw [R x x0, if_pos (by omega)]
      have e2 : run [S] p [.put 0 (l + s), .draw 0 l] [G] = [G] := by
        rw [R G G0, if_pos (by omega)]
      refine Fate.of_fix (t := 1) (fun st => at0 st 0) ?_ ?_
      · show run _ _ _ (run _ _ _ [x]) = run _ _ _ [x]
        rw [e1, e2]
      · intro i j hi hj
        have h1 : i = 0 := by omega
        have h2 : j = 1 := by omega
        subst h1 h2
        show x ≠ at0 (run [S] p [.put 0 (l + s), .draw 0 l] [x]) 0
        rw [e1]
        show x ≠ G
        omega
    · rw [if_neg c2]
      have e : x = G := by omega
      subst e
      refine Fate.of_fix (t := 0) (fun st => at0 st 0) ?_ (fun i j hi hj => absurd hj (by omega))
      show run _ _ _ [x] = [x]
      rw [R x x0, if_pos (by omega)]
theorem down_fate {S l s p x : Int} (hp : 1 ≤ p) (l0 : 0 ≤ l) (lS : l ≤ S) (s1 : 1 ≤ s) (x0 : 0 ≤ x) (xS : x ≤ S * p) : Fate (run [S] p [.draw 0 (l + s), .put 0 l]) [x] (tailAt (x - l * p) (s * p)).toNat 1 := by
  have d0 : 0 < s * p := Int.mul_pos (by omega) (by omega)
  have G0 : 0 ≤ l * p := Int.mul_nonneg l0 (by omega)
  have GS : l * p ≤ S * p := Int.mul_le_mul_of_nonneg_right lS (by omega)
  have R : ∀ x, 0 ≤ x → x ≤ S * p → run [S] p [.draw 0 (l + s), .put 0 l] [x] = [if x - s * p < l * p then l * p else x - s * p] := fun x h h2 => down_run hp l0 lS s1 h h2
  generalize l * p = G at R G0 GS ⊢
  generalize s * p = d at R d0 ⊢
  generalize S * p = U at R GS xS
  unfold tailAt
  by_cases c : x - G > 0
  · rw [if_pos c]
    exact fall_fate (fun st => at0 st 0 - G) (fun st => ∃ v, st = [v] ∧ G ≤ v ∧ v ≤ U) d0 ⟨x, rfl, by omega, xS⟩ (by
      rintro y ⟨v, rfl, v0, vG⟩
      rw [R v (by omega) vG]
      exact ⟨_, rfl, by split <;> omega, by split <;> omega⟩) (by
      rintro y ⟨v, rfl, v0, vG⟩
      rw [R v (by omega) vG]
      show (if v - d < G then G else v - d) - G = if d < v - G then v - G - d else 0
      split <;> split <;> omega) (by show 0 ≤ x - G; omega) (by
      rintro y ⟨v, rfl, v0, vG⟩ e
      have e : v - G = 0 := e
      rw [R v (by omega) vG]
      congr 1
      split <;> omega)
  · rw [if_neg c]
    by_cases c2 : x - G ≠ 0
    · rw [if_pos c2]
      have e1 : run [S] p [.draw 0 (l + s), .put 0 l] [x] = [G] := by
        rw [R x x0 xS, if_pos (by omega)]
      have e2 : run [S] p [.draw 0 (l + s), .put 0 l] [G] = [G] := by
        rw [R G G0 GS, if_pos (by omega)]
      refine Fate.of_fix (t := 1) (fun st => at0 st 0) ?_ ?_
      · show run _ _ _ (run _ _ _ [x]) = run _ _ _ [x]
        rw [e1, e2]
      · intro i j hi hj
        have h1 : i = 0 := by omega
        have h2 : j = 1 := by omega
        subst h1 h2
        show x ≠ at0 (run [S] p [.draw 0 (l + s), .put 0 l] [x]) 0
        rw [e1]
        show x ≠ G
        omega
    · rw [if_neg c2]
      have e : x = G := by omega
      subst e
      refine Fate.of_fix (t := 0) (fun st => at0 st 0) ?_ (fun i j hi hj => absurd hj (by omega))
      show run _ _ _ [x] = [x]
      rw [R x x0 xS, if_pos (by omega)]
/-- two jars, the one drawn out by little and filled up from the other one -/
theorem pour_fate {W S l p x : Int} (hp : 1 ≤ p) (l1 : 1 ≤ l) (lS : l ≤ S) (x0 : 0 ≤ x) : Fate (run [W, S] p [.draw 1 l, .pour 0 1]) [x, S * p] (over (x + S * p) (l * p)).toNat 1 := by
  have d0 : 0 < l * p := Int.mul_pos (by omega) (by omega)
  have dS : l * p ≤ S * p := Int.mul_le_mul_of_nonneg_right lS (by omega)
  have R : ∀ x y, run [W, S] p [.draw 1 l, .pour 0 1] [x, y] = (let y1 := if 0 > y - l * p then 0 else y - l * p; let m := if S * p - y1 < x then S * p - y1 else x; [x - m, y1 + m]) := fun x y => rfl
  generalize l * p = d at R d0 dS ⊢
  generalize S * p = U at R dS ⊢
  refine fall_fate (fun st => at0 st 0 + at0 st 1) (fun st => ∃ x y, st = [x, y] ∧ 0 ≤ x ∧ 0 ≤ y ∧ y ≤ U ∧ (y = U ∨ x = 0)) d0 ⟨x, U, rfl, x0, by omega, Int.le_refl _, .inl rfl⟩ ?_ ?_ (by show 0 ≤ x + U; omega) ?_
  · rintro y ⟨a, b, rfl, a0, b0, bU, h⟩
    rw [R a b]
    refine ⟨_, _, rfl, ?_, ?_, ?_, ?_⟩ <;> split <;> split <;> omega
  · rintro y ⟨a, b, rfl, a0, b0, bU, h⟩
    rw [R a b]
    show (a - _) + (_ + _) = if d < a + b then a + b - d else 0
    split <;> split <;> split <;> omega
  · rintro y ⟨a, b, rfl, a0, b0, bU, h⟩ e
    have e : a + b = 0 := e
    have ea : a = 0 := by omega
    have eb : b = 0 := by omega
    subst ea eb
    have e1 : (if 0 > (0 : Int) - d then (0 : Int) else 0 - d) = 0 := if_pos (by omega)
    rw [R 0 0]
    dsimp only
    rw [e1]
    have e2 : (if U - 0 < 0 then U - 0 else (0 : Int)) = 0 := if_neg (by omega)
    rw [e2]
    rfl
/-! ### jars that are changed about -/
def swp (a b i : Nat) : Nat := if i = a then b else if i = b then a else i
def turnOf : List D → Nat → Nat
  | [], i => i
  | .change a b :: ds, i => swp a b (turnOf ds i)
  | _ :: ds, i => turnOf ds i
def D.chg (m : Nat) (d : D) : Prop := ∃ a b, d = .change a b ∧ a < m ∧ b < m
theorem swp_lt {a b i m : Nat} (ha : a < m) (hb : b < m) (hi : i < m) : swp a b i < m := by
  unfold swp
  split
  · exact hb
  · split
    · exact ha
    · exact hi
theorem swp_inj {a b i j : Nat} (h : swp a b i = swp a b j) : i = j := by
  unfold swp at h
  split at h <;> split at h <;> (try split at h) <;> (try split at h) <;> omega
theorem turn_lt {m : Nat} : ∀ {ds : List D} {i : Nat}, (∀ d ∈ ds, d.chg m) → i < m → turnOf ds i < m
  | [], i, _, hi => hi
  | d :: ds, i, h, hi => by
    obtain ⟨a, b, rfl, ha, hb⟩ := h d (List.mem_cons_self ..)
    exact swp_lt ha hb (turn_lt (fun e he => h e (List.mem_cons_of_mem _ he)) hi)
theorem turn_inj {m : Nat} : ∀ {ds : List D} {i j : Nat}, (∀ d ∈ ds, d.chg m) → turnOf ds i = turnOf ds j → i = j
  | [], i, j, _, h => h
  | d :: ds, i, j, hc, h => by
    obtain ⟨a, b, rfl, ha, hb⟩ := hc d (List.mem_cons_self ..)
    exact turn_inj (fun e he => hc e (List.mem_cons_of_mem _ he)) (swp_inj h)
theorem turn_at {caps : List Int} {p : Int} : ∀ {ds : List D} {st : List Int} {i : Nat}, (∀ d ∈ ds, d.chg st.length) → i < st.length → at0 (run caps p ds st) i = at0 st (turnOf ds i)
  | [], st, i, _, _ => rfl
  | d :: ds, st, i, h, hi => by
    obtain ⟨a, b, rfl, ha, hb⟩ := h d (List.mem_cons_self ..)
    have l1 : ((D.change a b).act caps p st).length = st.length := act_len
    have hr : ∀ d ∈ ds, d.chg st.length := fun e he => h e (List.mem_cons_of_mem _ he)
    show at0 (run caps p ds ((D.change a b).act caps p st)) i = at0 st (swp a b (turnOf ds i))
    rw [turn_at (by rw [l1]; exact hr) (by omega)]
    have ht := turn_lt hr hi
    generalize turnOf ds i = k at ht
    simp only [D.act, swp]
    rw [at0_set (by rw [List.length_set]; omega), at0_set (by omega)]
    by_cases e1 : k = a
    · by_cases e2 : k = b
      · subst e1
        subst e2
        simp
      · rw [if_pos e1, if_neg (by omega), if_pos (by omega)]
    · by_cases e2 : k = b
      · rw [if_neg e1, if_pos e2, if_pos (by omega)]
      · rw [if_neg e1, if_neg e2, if_neg (by omega), if_neg (by omega)]
theorem it_comm {α : Type} {f : α → α} {x : α} : ∀ n, it f n (f x) = f (it f n x)
  | 0 => rfl
  | n + 1 => congrArg f (it_comm n)
theorem turns_at {caps : List Int} {p : Int} {ds : List D} {st : List Int} (h : ∀ d ∈ ds, d.chg st.length) : ∀ (n : Nat) {i : Nat}, i < st.length → at0 (it (run caps p ds) n st) i = at0 st (it (turnOf ds) n i)
  | 0, i, _ => rfl
  | n + 1, i, hi => by
    have l : (it (run caps p ds) n st).length = st.length := by rw [← runs_it, runs_len]
    show at0 (run caps p ds (it (run caps p ds) n st)) i = at0 st (turnOf ds (it (turnOf ds) n i))
    rw [turn_at (by rw [l]; exact h) (by omega), turns_at h n (turn_lt h hi), it_comm]
theorem turns_back {caps : List Int} {p : Int} {ds : List D} {st : List Int} (h : ∀ d ∈ ds, d.chg st.length) (m6 : st.length ≤ 6) : it (run caps p ds) 60 st = st := by
  have l : (it (run caps p ds) 60 st).length = st.length := by rw [← runs_it, runs_len]
  refine ext0 l fun i hi => ?_
  rw [turns_at h 60 (by omega), sixty m6 (fun i hi => turn_lt h hi) (fun i j _ _ e => turn_inj h e) (by omega)]
theorem least {P : Nat → Prop} : ∀ n, P n → ∃ m, m ≤ n ∧ P m ∧ ∀ k, k < m → ¬ P k := fun n => by
  induction n using Nat.strongRecOn with
  | ind n ih =>
    intro h
    by_cases c : ∃ k, k < n ∧ P k
    · obtain ⟨k, hk, pk⟩ := c
      obtain ⟨m, h1, h2, h3⟩ := ih k hk pk
      exact ⟨m, by omega, h2, h3⟩
    · exact ⟨n, Nat.le_refl _, h, fun k hk pk => c ⟨k, hk, pk⟩⟩
theorem turn_fate {caps : List Int} {p : Int} {ds : List D} {st : List Int} (h : ∀ d ∈ ds, d.chg st.length) (m6 : st.length ≤ 6) : ∃ n, n ≤ 60 ∧ Fate (run caps p ds) st 0 n ∧ ∀ k, 1 ≤ k → k < n → it (run caps p ds) k st ≠ st := by
  have b := turns_back (caps := caps) (p := p) h m6
  obtain ⟨n, h1, ⟨h2, h3⟩, h4⟩ := least (P := fun n => 1 ≤ n ∧ it (run caps p ds) n st = st) 60 ⟨by decide, b⟩
  refine ⟨n, h1, ⟨h2, by rw [Nat.zero_add]; exact h3, fun i j hij hj e => ?_⟩, fun k k1 k2 e => h4 k k2 ⟨k1, e⟩⟩
  have e2 : it (run caps p ds) (i + (60 - i)) st = it (run caps p ds) (j + (60 - i)) st := by rw [it_add, it_add, e]
  rw [show i + (60 - i) = 60 by omega, show j + (60 - i) = 60 + (j - i) by omega, it_add, b] at e2
  exact h4 (j - i) (by omega) ⟨by omega, e2.symm⟩
end Kp

namespace KpR
open PySem PySem.Spec PyProof.Rows L2
open AutoSeq1 (wpAny_loadPart')
/-! ### xs + ys, each a list that can be read -/
theorem addMeets (l b : Addr) (xs ys : Array Value) (n m : Nat) (sl tl : Array (Option Value)) (hsz : xs.size + ys.size ≤ sizeLine) :
    Meets (Builtin.«list.__add__» ⟨[.ref l, .ref b], []⟩) (fun _ R s =>
      s.heap.get? l = some { cls := .type "list", dict := none, data := .seq xs n, slots := sl } ∧
      s.heap.get? b = some { cls := .type "list", dict := none, data := .seq ys m, slots := tl } ∧
      R (.ok (.ret (.ref s.heap.objs.size))) { s with heap := s.heap.push { cls := .type "list", data := .seq (xs ++ ys) } }) :=
  .of_wp fun prog w A R s h => by
    obtain ⟨hp, g, d, tk, os⟩ := s
    obtain ⟨e1, e2, h⟩ := h
    have z1 := AutoSeq1.idx_int
    have z2 := AutoSeq1.sub_tuple_tuple
    have z3 := AutoSeq1.sub_list_list
    have z4 := AutoSeq1.sub_tuple_list
    have z5 := AutoSeq1.sub_list_tuple
    wp_walk using wpAny_loadPart' e1, wpAny_loadPart' e2
    exact ⟨_, rfl, h⟩
theorem enumNewT (l : Addr) (its : Array Value) (n : Nat) (dct : Option Addr) (sl : Array (Option Value)) :
    Meets (Builtin.«enumerate.__new__» ⟨[.type "enumerate", .ref l], []⟩) (fun _ R s =>
      s.heap.get? l = some { cls := .type "tuple", dict := dct, data := .seq its n, slots := sl } ∧
      R (.ok (.ret (.ref (s.heap.push { cls := .type "tuple_iterator", data := .fields #[.ref l, .int 0 0] }).objs.size)))
        { s with heap := Heap.push (Heap.push s.heap { cls := .type "tuple_iterator", data := .fields #[.ref l, .int 0 0] }) { cls := .type "enumerate", data := .fields #[.none, .bool false, .ref s.heap.objs.size, rawInt 0, .none, .none] } }) :=
  .of_wp fun prog w A R s h => by
    obtain ⟨hp, g, d, tk, os⟩ := s
    obtain ⟨hl, h⟩ := h
    have hsub := sub_enumerate
    have hL : Heap.IsTuple (Shared.heap ⟨hp, g, d, tk, os⟩) l its := ⟨_, hl, rfl, n, rfl⟩
    wp_walk using wpAny_loadPart' hl
    refine wpAny_stack_any fun st => wpAny_pure ?_
    split
    · rename_i c _ _ _ _ _
      cases (c == Value.type "enumerate") <;>
        (wp_walk using wpAny_loadPart' hl, wpAny_pyIter_tuple hL
         exact ⟨_, rfl, h⟩)
    · wp_walk using wpAny_loadPart' hl, wpAny_pyIter_tuple hL
      exact ⟨_, rfl, h⟩
end KpR

namespace KpR
open PySem PySem.Spec PyProof.Rows L2
open AutoSeq1 (wpAny_loadPart')
def rCatR (K : PySem.W.Frag) : R2 := fun x y H Q => ∃ l b xs zs, x = .ref l ∧ y = .ref b ∧ SqL K H l xs ∧ SqL K H b zs ∧ xs.length + zs.length ≤ sizeLine ∧ ∀ q, H q = none → Q (.ref q) (upd H q (.lst (xs ++ zs)))
section
variable {X : Cx}
theorem op_catR : OpR X (binaryOp .Add) (rCatR X.K) := by
  intro pins s σ H x y v u Q I rx ry h
  obtain ⟨l, b, xs, zs, rfl, rfl, h1, h2, hz, q⟩ := h
  cases rx
  cases ry
  obtain ⟨its, r1, p1, _⟩ := I.list h1
  obtain ⟨jts, r2, p2, _⟩ := I.list h2
  obtain ⟨⟨c1, d1, t1, s1⟩, n1, g1, k1, k2, k3⟩ := p1
  obtain ⟨⟨c2, d2, t2, s2⟩, n2, g2, k4, k5, k6⟩ := p2
  cases k1; cases k2; cases k3; cases k4; cases k5; cases k6
  have e1 := r1.length
  have e2 := r2.length
  refine concat_meets ⟨_, g1, rfl⟩ ⟨_, g2, rfl⟩ noFill_list_add seq_list_add F.slot_list_add F.entry_list_add (F.args_list_add_2 _ _)
    (addMeets l b its.toArray jts.toArray n1 n2 s1 s2 (by rw [List.size_toArray, List.size_toArray]; omega)) ⟨g1, g2, ?_⟩
  have ea : its.toArray ++ jts.toArray = (its ++ jts).toArray := by simp
  rw [ea]
  exact ⟨.ref _, _, I.lnew (t' := s.toks) (r1.append r2) (by rw [List.length_append]; omega), rfl, q _ I.fresh⟩
end
/-! ### enumerate(tuple) -/
theorem drawsT {prog : Program} {w : World} {A : Around} (hh : A.handled = none) (it l : Addr) (hne : l ≠ it) (its : Array Value) :
    Draws prog w A it [it, l] its.size (fun i v => its[i]? = some v) (fun i h => h.IsTupleIter it l i ∧ h.IsTuple l its) where
  live := fun _ _ st => by
    obtain ⟨⟨o, ho, _⟩, _⟩ := st
    exact ⟨o, ho⟩
  frame := fun _ _ _ st kp => ⟨st.1.at fun o e => kp it (by simp) o e, st.2.at fun o e => kp l (by simp) o e⟩
  item := fun i s Q E hi st hQ => by
    refine RZ.nextOf_tuple_item st.1 st.2 (x := its[i]) (by simp [hi]) fun h1 hit1 hs1 => ?_
    exact hQ _ h1 s.toks (by simp [hi]) ⟨hit1, st.2.extBut hs1.extBut hne⟩ hs1
  done := fun s Q E st hE => RZ.nextOf_tuple_end hh st.1 st.2 (by simp) hE
section
variable {prog : Program} {w : World} {A : Around} {E : Value → Shared → Prop} {s : Shared}
theorem callEnumT {l : Addr} {its : Array Value} {Q : Value → Shared → Prop} (hL : s.heap.IsTuple l its)
    (h : ∀ h', IsEnum h' (s.heap.objs.size + 1) s.heap.objs.size 0 .none → h'.IsTupleIter s.heap.objs.size l 0 → h'.IsTuple l its →
      (∀ b o, s.heap.get? b = some o → h'.get? b = some o) → Q (.ref (s.heap.objs.size + 1)) { s with heap := h' }) :
    wpAny (model prog w) A (call (.type "enumerate") [.ref l]) Q E s := by
  obtain ⟨⟨c, dct, dt, sl⟩, hl, hc, n, hd⟩ := id hL
  cases hc
  cases hd
  refine callType_new F.called_enumerate (by decide) (F.typeCall_enumerate_1 _) (F.newCall_enumerate_1 _) (fun obj => F.args_object_init_2 obj _) F.entry_enumerate_new
    (enumNewT l its n dct sl) ⟨hl, ?_⟩
  have hz : (s.heap.push { cls := .type "tuple_iterator", data := .fields #[.ref l, .int 0 0] }).objs.size = s.heap.objs.size + 1 := Heap.size_push ..
  show _ ∧ _
  rw [hz]
  have he : IsEnum ((s.heap.push { cls := .type "tuple_iterator", data := .fields #[.ref l, .int 0 0] }).push
      { cls := .type "enumerate", data := .fields #[.none, .bool false, .ref s.heap.objs.size, rawInt 0, .none, .none] }) (s.heap.objs.size + 1) s.heap.objs.size 0 .none := by
    have q := Heap.get?_push_size (s.heap.push { cls := .type "tuple_iterator", data := .fields #[.ref l, .int 0 0] })
      (o := { cls := .type "enumerate", data := .fields #[.none, .bool false, .ref s.heap.objs.size, rawInt 0, .none, .none] }) rfl
    rw [hz] at q
    exact q
  exact ⟨⟨_, he, rfl⟩, h _ he ⟨_, Heap.get?_push_of_some _ (Heap.get?_push_size _ (by rfl)), by rfl, by rfl⟩ ((hL.push _).push _) fun b o x => Heap.get?_push_of_some _ (Heap.get?_push_of_some _ x)⟩
end
/-- the tuple at a: each item in a new pair -/
def IteT (K : PySem.W.Frag) (a : Addr) : It where
  go := fun i H => ∃ (xs : List V) (x : V), SqT K H a xs ∧ xs[i]? = some x
  yld := fun i H v H' => ∃ T x, v = .ref T ∧ H T = none ∧ H' = upd H T (.tup [.int (i : Nat), x]) ∧ ∀ xs, SqT K H a xs → xs[i]? = some x
  stop := fun i H => ∃ xs : List V, SqT K H a xs ∧ xs.length = i
theorem turnEnumT {P : Program} {w : World} {K : PySem.W.Frag} {elts : List Expr} {kk : Nat} {tpos : Pos} (a e it : Addr) :
    Turn P w K (.Tuple elts kk tpos) (IteT K a) [e, it] e (fun i h => (∃ old, IsEnum h e it ((i : Nat) : Int) old) ∧ h.IsTupleIter it a i ∧ e ≠ it ∧ a ≠ it ∧ e ≠ a) where
  mem := by simp
  obj := fun i h st b hb => by
    obtain ⟨⟨old, he⟩, ⟨o, ho, hc, hd⟩, _⟩ := st
    rcases (show b = e ∨ b = it by simpa using hb) with z | z
    · subst z
      exact ⟨_, he, fun v q => nomatch q⟩
    · subst z
      exact ⟨o, ho, fun v q => by rw [hd] at q; cases q⟩
  keep := fun i h h' st k => by
    obtain ⟨⟨old, he⟩, hi, r⟩ := st
    exact ⟨⟨old, k e (by simp) _ he⟩, hi.at fun o q => k it (by simp) o q, r⟩
  item := by
    intro X hP hw hK hc i pins s σ H E I hf st hg
    subst hP hw hK
    obtain ⟨⟨old, he⟩, hit, hne, hai, hea⟩ := st
    obtain ⟨xs, x, hq, hx⟩ := hg
    obtain ⟨its, rv, p, hz⟩ := I.tuple hq
    obtain ⟨u, hu, ru⟩ := rv.get hx
    have el : e < s.heap.objs.size := Heap.lt_size he
    have il : it < s.heap.objs.size := by
      obtain ⟨_, q, _⟩ := hit
      exact Heap.lt_size q
    have hlt : i < its.toArray.size := by
      have := (List.getElem?_eq_some_iff.mp hu).1
      simpa using this
    refine wpAny_pyNext_enum_itemD (drawsT (A := X.A.in1) (I.ok.hd hc) it a hai its.toArray) he ⟨hit, p⟩ hlt hne (by simp; exact ⟨hne, hea⟩) fun y h' tk hy ho st' hT hsz hk => ?_
    obtain rfl : y = u := by
      have q : its.toArray[i]? = some u := by simpa using hu
      rw [q] at hy
      exact (Option.some.inj hy).symm
    refine ⟨_, rfl, wpAny_letOwnedTupleGo_enum (s := { s with heap := h', toks := tk + 1 }) ho fun h2 he2 sb => ?_⟩
    have hT2 : h2.get? s.heap.objs.size = some { cls := .type "tuple", data := .seq #[.int i tk, y] } := (sb.2 _ (Nat.ne_of_gt el)).trans hT
    have new : ObjOk X.prog X.w (upd H s.heap.objs.size (.tup [.int (i : Nat), x])) h2 s.heap.objs.size (.tup [.int (i : Nat), x]) :=
      ⟨by show 2 ≤ sizeLine; decide, [.int i tk, y], .cons ⟨_, rfl⟩ (.cons ru .nil), ⟨_, hT2, rfl, _, rfl⟩⟩
    have I1 : Inv X pins σ (upd H s.heap.objs.size (.tup [.int (i : Nat), x])) { s with heap := h2, toks := tk + 1 } :=
      I.turnedNew (ch := [e, it]) (fun b ob hb q => (sb.2 b (fun z => hb (by simp [z]))).trans (hk b ob (fun z => hb (by simp [z])) (fun z => hb (by simp [z])) q)) hf (Nat.le_refl _) new
    refine ⟨.ref s.heap.objs.size, _, I1, rfl, ⟨_, x, rfl, I.hok.fresh (Nat.le_refl _), rfl, fun ys hy2 => by rw [I.tuple_inj hy2 hq]; exact hx⟩, ⟨⟨y, ?_⟩, st'.1.at fun o q => (sb.2 it (Ne.symm hne)).trans q, hne, hai, hea⟩, fun b hb => ?_⟩
    · have e1 : ((i + 1 : Nat) : Int) = (i : Int) + 1 := by omega
      rw [e1]
      exact he2
    · have hb2 : b < s.heap.objs.size := by
        rcases (show b = e ∨ b = it by simpa using hb) with z | z
        · rw [z]; exact el
        · rw [z]; exact il
      rw [upd_ne (Nat.ne_of_lt hb2)]
      exact (hf b hb).1
  done := by
    intro X hP hw hK hc i pins s σ H E I hf st hg
    subst hP hw hK
    obtain ⟨⟨old, he⟩, hit, hne, hai, hea⟩ := st
    obtain ⟨xs, hq, hx⟩ := hg
    obtain ⟨its, rv, p, hz⟩ := I.tuple hq
    obtain ⟨f0, f1, f2, f3, f4, f5⟩ := hf it (by simp)
    have hl := rv.length
    have hiEq : i = its.toArray.size := by
      rw [List.size_toArray]
      omega
    subst hiEq
    exact wpAny_pyNext_enum_endD (drawsT (A := X.A.in1) (I.ok.hd hc) it a hai its.toArray) he ⟨hit, p⟩ fun h' eb => ⟨rfl, I.turned (t' := s.toks) (fun b o hb q => eb b o hb q) f0 f1 f3 f4 f5⟩
  self := fun A i s Q E st h => by
    obtain ⟨⟨_, he⟩, _⟩ := st
    exact wpAny_pyIter_enum he h
def iEnumT (K : PySem.W.Frag) (ta : TA) : TI := fun σ H R => ta σ H fun vs H1 => ∃ a xs, vs = [.ref a] ∧ SqT K H1 a xs ∧ R (IteT K a) H1
theorem pi_enumT {X : Cx} {e : Expr} {ta : TA} {p pos tpos : Pos} {elts : List Expr} {kk : Nat} (hg : Gl X "enumerate") (hm : X.mg "enumerate" = none) (ha : PA X [e] ta) (hs : starEach [e] X.env = [(false, eval e X.env)] := by rfl) :
    PI X (.Tuple elts kk tpos) (.Call (.Name "enumerate" p) [e] [] pos) (iEnumT X.K ta) := by
  refine ⟨fun pins s σ H R I h => ?_⟩
  refine Call_ (ld_blt I hg hm boot_enumerate (PyProof.Rows.callWith_type1 (thn (ha.run pos pins s σ H _ I h) fun us s1 ⟨vs, H1, I1, r1, a, xs, ex, hq, q⟩ => ?_) hs rfl))
  subst ex
  cases r1 with
  | cons r rr =>
    cases rr
    cases r
    obtain ⟨its, rv, p1, hz⟩ := I1.tuple hq
    refine callEnumT p1 fun h1 he hit hT hk => wpAny_pyIter_enum he ?_
    have al : a < s1.heap.objs.size := by
      obtain ⟨o, ho, _⟩ := p1
      exact Heap.lt_size ho
    have I2 : Inv X pins σ H1 { s1 with heap := h1 } := I1.kept (t' := s1.toks) hk
    refine ⟨s1.heap.objs.size + 1, [s1.heap.objs.size + 1, s1.heap.objs.size], _, _, H1, rfl, I2, turnEnumT a (s1.heap.objs.size + 1) s1.heap.objs.size, ⟨⟨.none, he⟩, hit, Nat.succ_ne_self _, Nat.ne_of_lt al, Nat.ne_of_gt (Nat.lt_succ_of_lt al)⟩, fun b hb => ?_, q⟩
    have le : s1.heap.objs.size ≤ b := by
      rcases (show b = s1.heap.objs.size + 1 ∨ b = s1.heap.objs.size by simpa using hb) with z | z
      · rw [z]
        exact Nat.le_succ _
      · rw [z]
        exact Nat.le_refl _
    exact I1.fpOk le (I1.hok.fresh le)
/-- the loop's bookkeeping: the pair is a new tuple at T -/
theorem for_enumT {K : PySem.W.Frag} {a : Addr} {xs : List V} {g : TG} {tb : TS} {D : Ends} {σ : L2.St} {H : Hp} (Pv : Nat → L2.St → Hp → Prop) (h0 : Pv 0 σ H) (hl : ∀ i σ H, i ≤ xs.length → Pv i σ H → SqT K H a xs)
    (hs : ∀ i x T σ H, xs[i]? = some x → Pv i σ H → H T = none → g (.ref T) σ (upd H T (.tup [.int (i : Nat), x])) fun σ2 H2 => tb { D with nx := Pv (i + 1), ct := Pv (i + 1), bk := D.nx } σ2 H2) (hd : ∀ σ H, Pv xs.length σ H → D.nx σ H) :
    ∃ W : Nat → Nat → L2.St → Hp → Prop, (∃ m, W 0 m σ H) ∧ ∀ i m σ H, W i m σ H →
      ((IteT K a).stop i H ∧ D.nx σ H) ∨ ((IteT K a).go i H ∧ ∃ N : L2.St → Hp → Prop, (∀ σ' H', N σ' H' → ∃ m', m' < m ∧ W (i + 1) m' σ' H') ∧ ∀ x H', (IteT K a).yld i H x H' → g x σ H' fun σ2 H2 => tb { D with nx := N, ct := N, bk := D.nx } σ2 H2) := by
  refine ⟨fun i m σ H => m = xs.length - i ∧ i ≤ xs.length ∧ Pv i σ H, ⟨xs.length, by simp, Nat.zero_le _, h0⟩, ?_⟩
  rintro i m σ1 H1 ⟨rfl, hi, p⟩
  by_cases e : i = xs.length
  · subst e
    exact .inl ⟨⟨xs, hl _ _ _ hi p, rfl⟩, hd _ _ p⟩
  · have lt : i < xs.length := by omega
    have ge : xs[i]? = some xs[i] := List.getElem?_eq_getElem lt
    refine .inr ⟨⟨xs, xs[i], hl _ _ _ hi p, ge⟩, Pv (i + 1), fun σ2 H2 q => ⟨xs.length - (i + 1), by omega, rfl, by omega, q⟩, ?_⟩
    rintro x H2 ⟨T, y, rfl, hT, rfl, hy⟩
    have q := hy xs (hl _ _ _ hi p)
    exact hs i y T σ1 H1 q p hT
/-! ### f(k = v, ..): keywords alone -/
theorem pe_callN0 {X : Cx} {CX : CXT} {k : Nat} {f : Addr} {fd : FuncData} {ps ks : List Str} {sp : Sp} {E : XK} {x : Str} {p pos : Pos} {kws : List Keyword} {tk : TA} {g : List Value → List Value → List Value} {gV : List V → List V → List V}
    (F : FnOk X.prog X.w X.K X.mg X.base CX k f fd ps sp) (hr : Room k X.A) (hg : Gl X x) (hm : X.mg x = some (.ref f)) (hk : PySem.W.keepIn X.K (.ref f) = true) (hb : KBn X.K fd ps 0 ks g gV) (hx : Passes CX X E) (hkw : PK X kws tk)
    (hall : (backToKw pos (keywordEach kws X.env)).all (·.1.isSome) = true := by rfl) (hks : (backToKw pos (keywordEach kws X.env)).filterMap (·.1) = ks := by rfl) (hdb : (x == ("__debug__" : Str)) = false := by decide)
    (hpl : ((backTo pos (starEach [] X.env)).any (·.1) || (backToKw pos (keywordEach kws X.env)).any (·.1.isNone)) = false := by rfl) :
    PE X (.Call (.Name x p) [] kws pos) (tCallN 0 ks.length sp gV E tNil tk) := by
  refine ⟨fun pins s σ H Q I h => ?_⟩
  refine wpAny_Call_Name_kw (ld_glob I hg hm ?_ hdb)
  refine PySem.W.callWith_KW0 (h₀ := X.base) I.ok.mod.kin hk hall (thn (hkw.run pos pins s σ H _ I h) fun ws s2 ⟨zs, H2, I2, rz, l1, l2, q2⟩ => ⟨I2.kIn, ?_⟩) hpl
  rw [hks]
  exact run_fnN (us := []) (vs := []) F hr hb hx I2 .nil rz rfl l2 q2
/-! ### isinstance's answers -/
theorem kit_self {K : PySem.W.Frag} {t : Value} (h : (t == t) = true) : PySem.W.kitOne K t t = some true := by
  unfold PySem.W.kitOne
  rw [if_pos h]
theorem kit_cls {K : PySem.W.Frag} {A C : Addr} {b : Bool} (h1 : PySem.W.isClsIn K C = true) (h2 : PySem.W.typeIn K (.ref C) = some (.type "type")) (h3 : PySem.W.subIn K (.ref A) (.ref C) = some b) (ne : (Value.ref A == Value.ref C) = false) :
    PySem.W.kitOne K (.ref A) (.ref C) = some b := by
  unfold PySem.W.kitOne
  rw [if_neg (by rw [ne]; exact Bool.false_ne_true)]
  show (if ((PySem.W.clsIn K C).isSome && PySem.W.typeIn K (.ref C) == some (.type "type")) = true then PySem.W.subIn K (.ref A) (.ref C) else none) = some b
  have h1' : (PySem.W.clsIn K C).isSome = true := h1
  rw [h1', h2, if_pos (by rfl)]
  exact h3
/-! ### lists of things that stand in the heap -/
def A2 {α : Type} (R : V → α → Prop) : List V → List α → Prop
  | [], [] => True
  | v :: vs, d :: ds => R v d ∧ A2 R vs ds
  | _, _ => False
section
variable {α : Type} {R S : V → α → Prop}
theorem A2.len : ∀ {vs : List V} {ds : List α}, A2 R vs ds → vs.length = ds.length
  | [], [], _ => rfl
  | _ :: _, _ :: _, h => congrArg (· + 1) (A2.len h.2)
  | [], _ :: _, h => h.elim
  | _ :: _, [], h => h.elim
theorem A2.mono (f : ∀ v d, R v d → S v d) : ∀ {vs : List V} {ds : List α}, A2 R vs ds → A2 S vs ds
  | [], [], _ => trivial
  | _ :: _, _ :: _, h => ⟨f _ _ h.1, A2.mono f h.2⟩
  | [], _ :: _, h => h.elim
  | _ :: _, [], h => h.elim
theorem A2.get : ∀ {vs : List V} {ds : List α} {i : Nat} {v : V}, A2 R vs ds → vs[i]? = some v → ∃ d, ds[i]? = some d ∧ R v d
  | [], [], i, v, _, e => by simp at e
  | w :: _, d :: _, 0, v, h, e => by
    have : w = v := by simpa using e
    exact ⟨d, rfl, this ▸ h.1⟩
  | _ :: _, _ :: _, i + 1, v, h, e => by
    obtain ⟨d, e1, r⟩ := A2.get (i := i) h.2 (by simpa using e)
    exact ⟨d, by simpa using e1, r⟩
  | [], _ :: _, _, _, h, _ => h.elim
  | _ :: _, [], _, _, h, _ => h.elim
theorem A2.app : ∀ {vs ws : List V} {ds es : List α}, A2 R vs ds → A2 R ws es → A2 R (vs ++ ws) (ds ++ es)
  | [], _, [], _, _, k => k
  | _ :: _, _, _ :: _, _, h, k => ⟨h.1, A2.app h.2 k⟩
  | [], _, _ :: _, _, h, _ => h.elim
  | _ :: _, _, [], _, h, _ => h.elim
theorem A2.take : ∀ {vs : List V} {ds : List α} (n : Nat), A2 R vs ds → A2 R (vs.take n) (ds.take n)
  | vs, ds, 0, _ => by simp [A2]
  | [], [], n + 1, _ => trivial
  | _ :: _, _ :: _, n + 1, h => ⟨h.1, A2.take n h.2⟩
  | [], _ :: _, _ + 1, h => h.elim
  | _ :: _, [], _ + 1, h => h.elim
theorem A2.drop : ∀ {vs : List V} {ds : List α} (n : Nat), A2 R vs ds → A2 R (vs.drop n) (ds.drop n)
  | vs, ds, 0, h => by simpa using h
  | [], [], n + 1, _ => trivial
  | _ :: _, _ :: _, n + 1, h => A2.drop n h.2
  | [], _ :: _, _ + 1, h => h.elim
  | _ :: _, [], _ + 1, h => h.elim
end
/-! ### heaps -/
/-- all that was tracked, but what stands at w, is as it was -/
def Fr (w : Addr) (H H' : Hp) : Prop := ∀ b o, b ≠ w → H b = some o → H' b = some o
theorem Fr.refl (w : Addr) (H : Hp) : Fr w H H := fun _ _ _ h => h
theorem Fr.trans {w : Addr} {H H1 H2 : Hp} (a : Fr w H H1) (b : Fr w H1 H2) : Fr w H H2 := fun c o n h => b c o n (a c o n h)
theorem Fr.of {w : Addr} {H H1 : Hp} (a : Same H H1) : Fr w H H1 := fun b o _ h => a b o h
theorem Fr.sqL {K : PySem.W.Frag} {w : Addr} {H H' : Hp} {a : Addr} {xs : List V} (e : Fr w H H') (n : a ≠ w) (h : SqL K H a xs) : SqL K H' a xs := by
  rcases h with h | h
  · refine Or.inl ?_
    rcases h with h | ⟨o, h⟩
    · exact Or.inl (e a _ n h)
    · exact Or.inr ⟨o, e a _ n h⟩
  · exact Or.inr h
theorem Fr.sqT {K : PySem.W.Frag} {w : Addr} {H H' : Hp} {a : Addr} {xs : List V} (e : Fr w H H') (n : a ≠ w) (h : SqT K H a xs) : SqT K H' a xs := by
  rcases h with h | h
  · refine Or.inl ?_
    rcases h with h | ⟨o, h⟩
    · exact Or.inl (e a _ n h)
    · exact Or.inr ⟨o, e a _ n h⟩
  · exact Or.inr h
theorem sameT {K : PySem.W.Frag} {H H' : Hp} {a : Addr} {xs : List V} (e : Same H H') (h : SqT K H a xs) : SqT K H' a xs := by
  rcases h with h | h
  · refine Or.inl ?_
    rcases h with h | ⟨o, h⟩
    · exact Or.inl (e a _ h)
    · exact Or.inr ⟨o, e a _ h⟩
  · exact Or.inr h
theorem same_new {H : Hp} {p : Addr} {o : HO} (h : H p = none) : Same H (upd H p o) := fun b u e => by
  rw [upd_ne (ne_of_none e h)]
  exact e
theorem same_mut {H H' : Hp} {p : Addr} {o : HO} (e : Same H H') (h : H p = none) : Same H (upd H' p o) := fun b u ha => by
  rw [upd_ne (ne_of_none ha h)]
  exact e b u ha
theorem fr_mut {w : Addr} {H H' : Hp} {o : HO} (e : Fr w H H') : Fr w H (upd H' w o) := fun b u n h => by
  rw [upd_ne n]
  exact e b u n h
theorem fr_new {w : Addr} {H H' : Hp} {p : Addr} {o : HO} (e : Fr w H H') (h : H p = none) : Fr w H (upd H' p o) := fun b u n ha => by
  rw [upd_ne (ne_of_none ha h)]
  exact e b u n ha
theorem fr_free {w : Addr} {H H' : Hp} {p : Addr} (e : Fr w H H') (n : p ≠ w) (h : H' p = none) : H p = none := by
  cases z : H p with
  | none => rfl
  | some o =>
    rw [e p o n z] at h
    cases h
/-- ints as values -/
abbrev vi (l : List Int) : List V := l.map V.int
theorem vi_get {l : List Int} {i : Nat} {y : V} (h : (vi l)[i]? = some y) : ∃ z, l[i]? = some z ∧ y = .int z := by
  rw [List.getElem?_map] at h
  cases e : l[i]? with
  | none =>
    rw [e] at h
    cases h
  | some z =>
    rw [e] at h
    exact ⟨z, rfl, (Option.some.inj h).symm⟩
theorem vi_at {l : List Int} {i : Nat} (h : i < l.length) : atI (vi l) (i : Int) = some (.int (l.getD i 0)) := by
  refine atI_nat ?_
  rw [List.getElem?_map, List.getElem?_eq_getElem h, List.getD_eq_getElem?_getD, List.getElem?_eq_getElem h]
  rfl
end KpR

namespace KpR
open PySem PySem.Spec PyProof.Rows L2
def strB (es : Array DictEntry) : Bool := es.toList.all fun e => match e.key with
  | .str _ _ => true
  | _ => false
theorem strB_keys {es : Array DictEntry} (h : strB es = true) : StrKeys es := fun e he => by
  have q := List.all_eq_true.mp h e (by simpa using he)
  cases k : e.key <;> rw [k] at q <;> first | exact ⟨_, _, rfl⟩ | cases q
theorem ns_at {K : PySem.W.Frag} {h : Heap} {N : Addr} {c : Value} {d : Option Addr} {es : Array DictEntry} {m : Nat} {sl : Array (Option Value)} (X : K.In h) (l : K.lookup N = some ⟨c, d, .dict es m, sl⟩) (ok : strB es = true) :
    h.Ns N fun x => nsFind es x := ⟨_, es, m, X _ _ l, rfl, strB_keys ok, fun _ => rfl⟩
theorem find_some {K : PySem.W.Frag} {N : Addr} {c : Value} {d : Option Addr} {es : Array DictEntry} {m : Nat} {sl : Array (Option Value)} {x : Str} {v : Value} (l : K.lookup N = some ⟨c, d, .dict es m, sl⟩)
    (e : PySem.W.nsIn K N x = some (some v)) : nsFind es x = some v := by
  unfold PySem.W.nsIn at e
  rw [l] at e
  dsimp only at e
  unfold nsFind findBy
  rw [← Array.find?_toList]
  cases q : es.toList.find? (fun en => en.key.isStr x) with
  | none =>
    rw [q] at e
    dsimp only at e
    split at e <;> cases e
  | some en =>
    rw [q] at e
    cases e
    rfl
theorem find_none {K : PySem.W.Frag} {N : Addr} {c : Value} {d : Option Addr} {es : Array DictEntry} {m : Nat} {sl : Array (Option Value)} {x : Str} (l : K.lookup N = some ⟨c, d, .dict es m, sl⟩)
    (e : PySem.W.nsIn K N x = some none) : nsFind es x = none := by
  unfold PySem.W.nsIn at e
  rw [l] at e
  dsimp only at e
  unfold nsFind findBy
  rw [← Array.find?_toList]
  cases q : es.toList.find? (fun en => en.key.isStr x) with
  | none => rfl
  | some en =>
    rw [q] at e
    cases e
/-- what the written part says of such a class -/
structure NeCls (K : PySem.W.Frag) (C f : Addr) : Prop where
  ob : ∃ (nm q : Str) (N : Addr) (bs : List Value) (hd : Bool) (sn : List Str) (sub : List Value) (ab : Bool) (col : Option Bool) (dd : Option Addr) (k0 k1 k2 k3 k5 : Option Value) (nid : String),
    K.lookup C = some (excClassObj nm q C N bs [.type "object"] hd sn sub ab col dd k0 k1 k2 k3 k5 nid) ∧
    ∃ (c : Value) (d : Option Addr) (es : Array DictEntry) (m : Nat) (sl : Array (Option Value)), K.lookup N = some ⟨c, d, .dict es m, sl⟩ ∧ strB es = true ∧ PySem.W.nsIn K N "__eq__" = some (some (.ref f)) ∧ PySem.W.nsIn K N "__ne__" = some none
  fn : ∃ of : Obj, K.lookup f = some of ∧ of.cls = .type "function"
def rNeG (D : Eqv) : R2 := fun x y H Q => D x y H ∧ ∀ H', Ext H H' → Q (.bl false) H'
section
variable {X : Cx} {CX : CXT} {n : Nat} {C f : Addr} {fd : FuncData} {ps : List Str} {R : Addr → Addr → Hp → Prop} {E : XK}
theorem op_neOwn (G : FnOk X.prog X.w X.K X.mg X.base CX n f fd ps (spEq R)) (hc : NeCls X.K C f) (hb : Binds X.K fd ps []) (hx : Passes CX X E) (hr : Room (n + 1) X.A) :
    OpR X (compareOp .NotEq) (rNeG (DIns C R)) := by
  intro pins s σ H x y v u Q I rx ry hq
  obtain ⟨⟨a, b, dx, dy, fs, gs, rfl, rfl, ha, hb1, hR⟩, q⟩ := hq
  cases rx
  cases ry
  obtain ⟨mA, J, _⟩ := ins_get I.hok ha
  obtain ⟨mB, J1, _⟩ := ins_get I.hok hb1
  obtain ⟨od, J, _⟩ := J.look
  obtain ⟨od1, J1, _⟩ := J1.look
  obtain ⟨nm, qn, N, bs, hd, sn, sub, ab, col, dd, k0, k1, k2, k3, k5, nid, lC, c1, d1, es, m, sl, lN, sb, lE, lNe⟩ := hc.ob
  obtain ⟨of, lf, cf⟩ := hc.fn
  have KI := I.kIn
  obtain ⟨mN, hn, e1, e2⟩ : ∃ mN : Str → Option Value, s.heap.Ns N mN ∧ mN "__eq__" = some (.ref f) ∧ mN "__ne__" = none := ⟨_, ns_at KI lN sb, find_some lN lE, find_none lN lNe⟩
  have XX : s.heap.OwnEqNoNe a C f "object" [.type "object"] :=
    ⟨_, of, nm, qn, N, bs, hd, sn, sub, ab, col, dd, k0, k1, k2, k3, k5, nid, mN, _, J.at_, J.cls, KI _ _ lC, hn, e1, KI _ _ lf, cf, rfl, rfl, e2⟩
  have e0 := I.env0
  have sp1 : spEq R [.ref a, .ref b] H (fun v H' => v = .bl true ∧ Ext H H') E := ⟨a, b, rfl, hR, fun H' e => ⟨rfl, e⟩⟩
  have ln := G.len _ _ _ _ sp1
  have vals : Vals [V.ref a, V.ref b] [Value.ref a, Value.ref b] := .cons rfl (.cons rfl .nil)
  have hr1 : Room n X.A.in1 := hr.in1
  have f0 : Env0 X.prog X.w X.K X.mg X.base X.A.in1 X.stack s H := ⟨e0.frames, e0.mod, e0.bs, e0.bsz, e0.funs, e0.frf, e0.hok, e0.bare⟩
  have bd := hb s [.ref a, .ref b] KI (by simpa using ln)
  obtain ⟨hp, g, dr, tk, os⟩ := s
  refine compareOp_ne_ownEq F.cmp_object XX J1.at_ J1.cls (hu_of hr) ?_
  refine wpAny_call (codeAny_mono (G.run X.A.in1 X.stack _ H ⟨[.ref a, .ref b], []⟩ [.ref a, .ref b] [.ref a, .ref b] _ E hr1 f0 (by simpa using bd) vals sp1) fun r s1 hq1 => ?_)
  cases r with
  | error e => exact hx pins σ H _ e s1 I hq1
  | ok fl =>
    cases fl with
    | ret w1 =>
      obtain ⟨z, H1, I1, rz, ez, ex⟩ := I.after hq1
      subst ez
      cases rz
      exact ⟨true, rfl, .bl false, H1, I1, rfl, q H1 ex⟩
    | next => exact False.elim hq1
    | brk => exact False.elim hq1
    | cont => exact False.elim hq1
end
end KpR

namespace KpR
open PySem PySem.Spec PyProof.Rows L2
section
variable {prog : Program} {w : World} {A : Around} {E : Value → Shared → Prop} {s : Shared} {K : PySem.W.Frag} {x C f : Addr} {ox : Obj} {od : Option Obj}
theorem dec_tup {l : Addr} {its : Array Value} {n : Nat} {dd : Option Addr} {sl : Array (Option Value)} {Q : Value → Shared → Prop} (hl : s.heap.get? l = some { cls := .type "tuple", dict := dd, data := .seq its n, slots := sl })
    (hx : s.heap.get? x = some ox) (hc : ox.cls = .ref C) (hs : PySem.W.Looks (model prog w) s.heap (isSubtype (.ref C) (.type "tuple")) false) (q : Q .notImplemented s) :
    wpAny (model prog w) A (call (.builtin "tuple.__eq__") [.ref l, .ref x]) Q E s := by
  refine GQ.call_here F.slot_tuple_eq ⟨_, hl, rfl⟩ F.entry_tuple_eq (F.args_tuple_eq_2 _ _) ?_
  obtain ⟨hp, g, d, tk, os⟩ := s
  wp_walk using PySem.AutoSeq1.wpAny_loadPart' hx
  rw [hc]
  refine hs.at ?_
  wp_walk
  exact q
theorem dec_int {i : Int} {t : Tok} {Q : Value → Shared → Prop}
    (hx : s.heap.get? x = some ox) (hd : ∀ p, ox.data ≠ .prim p) (q : Q .notImplemented s) :
    wpAny (model prog w) A (call (.builtin "int.__eq__") [.int i t, .ref x]) Q E s := by
  refine GQ.call_here F.slot_int_eq (typeIs_int s i t) F.entry_int_eq (F.args_int_eq_2 _ _) ?_
  obtain ⟨hp, g, d, tk, os⟩ := s
  wp_walk using PySem.AutoSeq1.wpAny_loadPart' hx, wpAny_load hx
  split
  · rename_i i' t' e
    exact absurd e (hd _)
  · wp_walk
    exact q
theorem dec_non {Q : Value → Shared → Prop} (q : Q .notImplemented s) :
    wpAny (model prog w) A (call (.builtin "NoneType.__eq__") [.none, .ref x]) Q E s :=
  call_gives F.slot_NoneType_eq rfl F.entry_NoneType_eq (F.args_NoneType_eq_2 _ _) (SeqAt.NoneType___eq___none_ref_0 x) q
/-- a value that declines, then the own == of the other side -/
theorem rc_behind {v : Value} {T id : String} {Q : Value → Shared → Prop} (tv : s.TypeIs v T) (X : K.In s.heap) (I : PySem.W.InstAt s.heap x ox C od) (hsub : PySem.W.subIn K (.ref C) (.type T) = some false)
    (h1 : Slot T "__eq__" id) (dec : ∀ Q' : Value → Shared → Prop, Q' .notImplemented s → wpAny (model prog w) A (call (.builtin id) [v, .ref x]) Q' E s) (hs : PySem.W.findIn K (.ref C) "__eq__" = some (some (.ref f))) (hf : PySem.W.isFn K (.ref f) = true)
    (hu : A.units < cLine) (h : wpAny (model prog w) A (call (.ref f) [.ref x, v]) (PySem.W.CmpBack Q) E s) : wpAny (model prog w) A (richCompare .Eq v (.ref x)) Q E s := by
  have one : wpAny (model prog w) A (tryCompare (.ref x) "__eq__" v) (fun r s' => ∃ z, r = some z ∧ Q z s') E s := by
    unfold tryCompare
    refine wpAny_bind (PySem.W.ifBound_K X I hs hf (wpAny_mono h (fun z s' hz => ?_) fun _ _ e => e))
    cases z with
    | notImplemented => exact False.elim hz
    | _ => exact wpAny_pure ⟨_, rfl, hz⟩
  have nz : (Value.type T != Value.ref C) = true := rfl
  simp only [richCompare, cmpInfo_Eq, tv.oneThing_none]
  refine wpAny_holding (wpAny_bind (wpAny_cRoomFor hu ?_))
  refine wpAny_bind (wpAny_typeOf tv (wpAny_bind (I.type.here ?_)))
  rw [if_pos nz]
  refine wpAny_bind ((PySem.W.looks_subIn X hsub).here ?_)
  rw [if_neg Bool.false_ne_true]
  refine wpAny_bind (m := tryCompare v _ (.ref x)) (wpAny_tryCompare_declines tv h1 (dec _ ⟨rfl, ?_⟩))
  rw [if_pos (show (!false) = true from rfl)]
  refine wpAny_bind (m := tryCompare (.ref x) _ v) (wpAny_mono one (fun r s' z => ?_) fun _ _ e => e)
  obtain ⟨z, rfl, hq⟩ := z
  exact wpAny_pure hq
end
/-- an own == that answers b where R says so, and only makes objects -/
def spEqB (R : Addr → V → Bool → Hp → Prop) : Sp := fun vs H Q _ => ∃ a y b, vs = [.ref a, y] ∧ R a y b H ∧ ∀ H', Ext H H' → Q (.bl b) H'
/-- either answer, by the abstract heap -/
abbrev EqvB := V → V → Bool → Hp → Prop
def EqB (X : Cx) (n : Nat) (D : EqvB) : Prop :=
  ∀ (B : Around) (pins : List (Addr × Obj)) (s : Shared) (σ : L2.St) (H : Hp) (x y : V) (b : Bool) (u v : Value), Sub X n B → Inv X pins σ H s → RelV x u → RelV y v → D x y b H →
    wpAny (model X.prog X.w) B (eqBool u v) (fun r s' => r = b ∧ LoopI X pins σ H s') X.xe s
def RcB (X : Cx) (n : Nat) (D : EqvB) : Prop :=
  ∀ (B : Around) (pins : List (Addr × Obj)) (s : Shared) (σ : L2.St) (H : Hp) (x y : V) (b : Bool) (u v : Value), Sub X n B → Inv X pins σ H s → RelV x u → RelV y v → D x y b H →
    wpAny (model X.prog X.w) B (richCompare .Eq u v) (fun r s' => r = .bool b ∧ LoopI X pins σ H s') X.xe s
/-- what the written part says of a class with an own == -/
structure EqCls (K : PySem.W.Frag) (C f : Addr) : Prop where
  hs : PySem.W.findIn K (.ref C) "__eq__" = some (some (.ref f))
  hf : PySem.W.isFn K (.ref f) = true
/-- both are instances, the second of no class below the first one's -/
def DInsB (K : PySem.W.Frag) (C : Addr) (R : Addr → V → Bool → Hp → Prop) : EqvB := fun x y b H => ∃ a c C' dx dy fs gs, x = .ref a ∧ y = .ref c ∧ H a = some (.ins C dx fs) ∧ H c = some (.ins C' dy gs) ∧ PySem.W.notFirst K C (.ref C') = true ∧ R a (.ref c) b H
/-- the first one is none of the class -/
inductive Alien (K : PySem.W.Frag) (C : Addr) (H : Hp) : V → Prop
  | non (h : PySem.W.subIn K (.ref C) (.type "NoneType") = some false) : Alien K C H .non
  | int {i : Int} (h : PySem.W.subIn K (.ref C) (.type "int") = some false) : Alien K C H (.int i)
  | tup {a : Addr} {xs : List V} (h : PySem.W.subIn K (.ref C) (.type "tuple") = some false) (e : H a = some (.tup xs)) : Alien K C H (.ref a)
  | lst {a : Addr} {xs : List V} (h : PySem.W.subIn K (.ref C) (.type "list") = some false) (e : H a = some (.lst xs)) : Alien K C H (.ref a)
def DBehB (K : PySem.W.Frag) (C : Addr) (R : Addr → V → Bool → Hp → Prop) : EqvB := fun x y b H => ∃ a dx fs, y = .ref a ∧ H a = some (.ins C dx fs) ∧ Alien K C H x ∧ R a x b H
section
variable {prog : Program} {w : World} {A : Around} {E : Value → Shared → Prop} {s : Shared} {x C : Addr} {ox : Obj}
theorem dec_lst {l : Addr} {its : Array Value} {n : Nat} {dd : Option Addr} {sl : Array (Option Value)} {Q : Value → Shared → Prop} (hl : s.heap.get? l = some { cls := .type "list", dict := dd, data := .seq its n, slots := sl })
    (hx : s.heap.get? x = some ox) (hc : ox.cls = .ref C) (hs : PySem.W.Looks (model prog w) s.heap (isSubtype (.ref C) (.type "list")) false) (q : Q .notImplemented s) :
    wpAny (model prog w) A (call (.builtin "list.__eq__") [.ref l, .ref x]) Q E s := by
  refine GQ.call_here F.slot_list_eq ⟨_, hl, rfl⟩ F.entry_list_eq (F.args_list_eq_2 _ _) ?_
  obtain ⟨hp, g, d, tk, os⟩ := s
  wp_walk using PySem.AutoSeq1.wpAny_loadPart' hx
  rw [hc]
  refine hs.at ?_
  wp_walk
  exact q
end
section
variable {X : Cx} {CX : CXT} {n : Nat} {C f : Addr} {fd : FuncData} {ps : List Str} {R : Addr → V → Bool → Hp → Prop} {E : XK} {pins : List (Addr × Obj)} {σ : L2.St} {H : Hp} {s : Shared} {B : Around}
theorem own_runB (G : FnOk X.prog X.w X.K X.mg X.base CX n f fd ps (spEqB R)) (hb : Binds X.K fd ps []) (hx : Passes CX X E) (sb : Sub X n B) (I : Inv X pins σ H s) {a : Addr} {y : V} {v : Value} {b : Bool} (ry : RelV y v) (hr : R a y b H) :
    wpAny (model X.prog X.w) B (call (.ref f) [.ref a, v]) (PySem.W.CmpBack fun r s' => r = .bool b ∧ LoopI X pins σ H s') X.xe s := by
  have sp1 : spEqB R [.ref a, y] H (fun z H' => z = .bl b ∧ Ext H H') E := ⟨a, y, b, rfl, hr, fun H' e => ⟨rfl, e⟩⟩
  have e0 := I.env0
  have ln := G.len _ _ _ _ sp1
  have vals : Vals [V.ref a, y] [Value.ref a, v] := .cons rfl (.cons ry .nil)
  have f0 : Env0 X.prog X.w X.K X.mg X.base B X.stack s H := ⟨by rw [sb.fr]; exact e0.frames, e0.mod, e0.bs, e0.bsz, e0.funs, e0.frf, e0.hok, e0.bare⟩
  have bd := hb s [.ref a, v] I.kIn (by simpa using ln)
  refine wpAny_call (codeAny_mono (G.run B X.stack s H ⟨[.ref a, v], []⟩ [.ref a, v] [.ref a, y] _ E sb.room f0 (by simpa using bd) vals sp1) fun r s1 hq1 => ?_)
  cases r with
  | error e => exact hx pins σ H s e s1 I hq1
  | ok fl =>
    cases fl with
    | ret w1 =>
      obtain ⟨z, H1, I1, rz, ez, ex⟩ := I.after hq1
      subst ez
      cases rz
      exact ⟨rfl, H1, I1, ex⟩
    | next => exact False.elim hq1
    | brk => exact False.elim hq1
    | cont => exact False.elim hq1
theorem rcB_ins (hc : EqCls X.K C f) (G : FnOk X.prog X.w X.K X.mg X.base CX n f fd ps (spEqB R)) (hb : Binds X.K fd ps []) (hx : Passes CX X E) : RcB X n (DInsB X.K C R) := by
  intro B pins s σ H x y b u v sb I rx ry hd
  obtain ⟨a, c, C', dx, dy, fs, gs, rfl, rfl, ha, hc1, nf, hr⟩ := hd
  cases rx
  cases ry
  obtain ⟨mA, J, _⟩ := ins_get I.hok ha
  obtain ⟨mC, J1, _⟩ := ins_get I.hok hc1
  obtain ⟨od, J, _⟩ := J.look
  obtain ⟨od1, J1, _⟩ := J1.look
  obtain ⟨m, hF⟩ := I.fr
  exact PySem.W.cmp_K (op := .Eq) (tb := .ref C') sb.room.units0 hF I.ok.mod.kin J J1.type nf hc.hs hc.hf (own_runB (y := .ref c) (v := .ref c) G hb hx sb I rfl hr)
theorem rcB_beh (hc : EqCls X.K C f) (G : FnOk X.prog X.w X.K X.mg X.base CX n f fd ps (spEqB R)) (hb : Binds X.K fd ps []) (hx : Passes CX X E) : RcB X n (DBehB X.K C R) := by
  intro B pins s σ H x y b u v sb I rx ry hd
  obtain ⟨a, dx, fs, rfl, ha, al, hr⟩ := hd
  cases ry
  obtain ⟨mA, J, _⟩ := ins_get I.hok ha
  obtain ⟨od, J, _⟩ := J.look
  have go := fun {v : Value} (rv : RelV x v) => own_runB G hb hx sb I rv hr
  cases al with
  | non h =>
    cases (show u = Value.none from rx)
    exact rc_behind rfl I.kIn J h F.slot_NoneType_eq (fun _ q => dec_non q) hc.hs hc.hf sb.room.units0 (go rfl)
  | int h =>
    obtain ⟨t, e⟩ := (show ∃ t, u = Value.int _ t from rx)
    cases e
    exact rc_behind (typeIs_int s _ t) I.kIn J h F.slot_int_eq (fun _ q => dec_int J.at_ (fun _ z => nomatch z) q) hc.hs hc.hf sb.room.units0 (go ⟨t, rfl⟩)
  | tup h e =>
    cases (show u = Value.ref _ from rx)
    obtain ⟨its, r, ⟨⟨cl, dd, dt, sl⟩, e1, e2, k, e3⟩, _⟩ := I.tuple (SqT.of e)
    simp only at e2 e3
    subst e2 e3
    exact rc_behind ⟨_, e1, rfl⟩ I.kIn J h F.slot_tuple_eq (fun _ q => dec_tup e1 J.at_ rfl (PySem.W.looks_subIn I.kIn h) q) hc.hs hc.hf sb.room.units0 (go rfl)
  | lst h e =>
    cases (show u = Value.ref _ from rx)
    obtain ⟨z, its, k, r, e1⟩ := I.hok _ _ e
    exact rc_behind ⟨_, e1, rfl⟩ I.kIn J h F.slot_list_eq (fun _ q => dec_lst e1 J.at_ rfl (PySem.W.looks_subIn I.kIn h) q) hc.hs hc.hf sb.room.units0 (go rfl)
end
section
variable {X : Cx} {n m : Nat} {D D' : EqvB}
theorem RcB.or (h : RcB X n D) (h' : RcB X n D') : RcB X n (fun x y b H => D x y b H ∨ D' x y b H) := fun B pins s σ H x y b u v sb I rx ry d =>
  d.elim (h B pins s σ H x y b u v sb I rx ry) (h' B pins s σ H x y b u v sb I rx ry)
theorem EqB.or (h : EqB X n D) (h' : EqB X n D') : EqB X n (fun x y b H => D x y b H ∨ D' x y b H) := fun B pins s σ H x y b u v sb I rx ry d =>
  d.elim (h B pins s σ H x y b u v sb I rx ry) (h' B pins s σ H x y b u v sb I rx ry)
theorem RcB.mono (h : RcB X n D) (k : n ≤ m) : RcB X m D := fun B pins s σ H x y b u v sb => h B pins s σ H x y b u v (sb.mono k)
/-- inside a list or a tuple: the same object is itself -/
theorem RcB.eqB (h : RcB X n D) (hr : ∀ x y b H, D x y b H → (∃ c, x = .ref c ∧ ∃ a, y = .ref a ∧ (c = a → b = true)) ∨ ((x = .non ∨ ∃ i, x = .int i) ∧ ∃ a, y = .ref a)) : EqB X n D := by
  intro B pins s σ H x y b u v sb I rx ry d
  have go : u ≠ v → (∀ p q, ¬ (u = .float p q)) → wpAny (model X.prog X.w) B (eqBool u v) (fun r s' => r = b ∧ LoopI X pins σ H s') X.xe s := by
    intro ne nf
    unfold eqBool
    refine wpAny_holding ?_
    refine wpAny_ite_split (fun e => absurd (eq_of_beq e) ne) (fun _ => ?_)
    have k := h B pins s σ H x y b u v sb I rx ry d
    have k2 : wpAny (model X.prog X.w) B (do truthOfDropped (← richCompare .Eq u v)) (fun r s' => r = b ∧ LoopI X pins σ H s') X.xe s := by
      refine wpAny_bind (wpAny_mono k (fun z s' q => ?_) fun _ _ e => e)
      obtain ⟨rfl, q⟩ := q
      exact wpAny_truthy_bool ⟨rfl, q⟩
    cases u with
    | float p q => exact absurd rfl (nf p q)
    | _ => exact k2
  rcases hr x y b H d with ⟨c, rfl, a, rfl, q⟩ | ⟨hx, a, rfl⟩
  · cases (show u = Value.ref c from rx)
    cases (show v = Value.ref a from ry)
    by_cases e : c = a
    · have eb := q e
      subst e
      subst eb
      exact SeqAt.EqAt.same (A := B) (s := s) (.ref c) X.prog X.w X.xe _ ⟨rfl, H, I, Ext.rfl'⟩
    · exact go (fun z => e (Value.ref.inj z)) (fun _ _ z => nomatch z)
  · cases (show v = Value.ref a from ry)
    rcases hx with rfl | ⟨i, rfl⟩
    · cases (show u = Value.none from rx)
      exact go (fun z => nomatch z) (fun _ _ z => nomatch z)
    · obtain ⟨t, e⟩ := (show ∃ t, u = Value.int i t from rx)
      cases e
      exact go (fun z => nomatch z) (fun _ _ z => nomatch z)
/-- x == y -/
def rEqB (D : EqvB) : R2 := fun x y H Q => ∃ b, D x y b H ∧ ∀ H', Ext H H' → Q (.bl b) H'
theorem op_eqB (h : RcB X n D) (hr : Room n X.A) : OpR X (compareOp .Eq) (rEqB D) := by
  intro pins s σ H x y v u Q I rx ry hq
  obtain ⟨b, d, q⟩ := hq
  show wpAny (model X.prog X.w) X.A (richCompare .Eq v u) (EP X pins σ Q) X.xe s
  refine wpAny_mono (h X.A pins s σ H x y b v u ⟨hr, rfl⟩ I rx ry d) (fun r s1 z => ?_) fun _ _ e => e
  obtain ⟨rfl, H1, I1, e⟩ := z
  exact ⟨.bl b, H1, I1, rfl, q H1 e⟩
/-- x in a list none of whose items is equal to it -/
def rOutB (D : EqvB) : R2 := fun x y H Q => ∃ l ys, y = .ref l ∧ (∀ H', Ext H H' → H' l = some (.lst ys)) ∧ (∀ z, z ∈ ys → ∀ H', Ext H H' → D z x false H') ∧ ∀ H', Ext H H' → Q (.bl false) H'
theorem has_none (h : EqB X n D) {B : Around} (sb : Sub X (n + 1) B) {pins : List (Addr × Obj)} {σ : L2.St} {H : Hp} {x : V} {v : Value} {l : Addr} {ys : List V} (rx : RelV x v) (hl : ∀ H', Ext H H' → H' l = some (.lst ys)) (hd : ∀ z, z ∈ ys → ∀ H', Ext H H' → D z x false H')
    {Q : Value → Shared → Prop} (fin : ∀ s', LoopI X pins σ H s' → Q (.bool false) s') (k : Nat) : ∀ i : Nat, ys.length - i = k → ∀ s, LoopI X pins σ H s →
      wpAny (model X.prog X.w) B.in1 (Builtin.«list.__contains__.loop» ⟨[.ref l, v, rawInt i], []⟩) (GQ.FinOf X.prog X.w B (wants Q X.xe)) (fun e s' => wants Q X.xe (.error e) s') s := by
  induction k with
  | zero =>
    intro i hi s hs
    obtain ⟨H1, I1, e1⟩ := id hs
    obtain ⟨z, its, kk, r, eo⟩ := I1.hok _ _ (hl H1 e1)
    have out := fin s hs
    have no : its.toArray[((i : Nat) : Int).toNat]? = none := by
      have q := r.length
      simp
      omega
    obtain ⟨hp, g, d, tk, os⟩ := s
    wp_walk using PySem.AutoSeq1.wpAny_loadPart' eo
    rw [no]
    wp_walk
    exact out
  | succ k ih =>
    intro i hi s hs
    obtain ⟨H1, I1, e1⟩ := id hs
    obtain ⟨z, its, kk, r, eo⟩ := I1.hok _ _ (hl H1 e1)
    have lt : i < ys.length := by omega
    have lt2 : i < its.length := by rw [← r.length] <;> exact lt
    have so : its.toArray[((i : Nat) : Int).toNat]? = some its[i] := by simp [lt2]
    obtain ⟨u, hu, ru⟩ := r.get (List.getElem?_eq_getElem lt)
    have eu : its[i] = u := by
      rw [List.getElem?_eq_getElem lt2] at hu
      exact Option.some.inj hu
    have turn := h B.in1 pins s σ H1 _ x false u v sb.in1 I1 ru rx (hd _ (List.getElem_mem lt) H1 e1)
    obtain ⟨hp, g, d, tk, os⟩ := s
    wp_walk using PySem.AutoSeq1.wpAny_loadPart' eo
    rw [so, eu]
    refine wpAny_bind (wpAny_mono turn (fun rr s2 q => ?_) fun _ _ e => e)
    obtain ⟨rfl, H2, I2, e2⟩ := q
    have next := ih (i + 1) (by omega) s2 ⟨H2, I2, e1.trans e2⟩
    have up : ((i : Int) + 1) = ((i + 1 : Nat) : Int) := by omega
    obtain ⟨hp2, g2, d2, tk2, os2⟩ := s2
    wp_walk
    rw [up]
    exact ⟨plainId_quiet MeetsSeq.plain_contains_loop _, codeAny_builtin MeetsSeq.entry_contains_loop (by
      rw [Around.under_plainId MeetsSeq.plain_contains_loop _]
      exact next)⟩
theorem op_outB (h : EqB X n D) (hr : Room (n + 1) X.A) : OpR X (compareOp .In) (rOutB D) := by
  intro pins s σ H x y v u Q I rx ry hq
  obtain ⟨l, ys, rfl, hl, hd, q⟩ := hq
  cases (show u = Value.ref l from ry)
  obtain ⟨z, its, kk, r, eo⟩ := I.hok _ _ (hl H Ext.rfl')
  show wpAny (model X.prog X.w) X.A (do return .bool (← contains (.ref l) v)) (EP X pins σ Q) X.xe s
  have end_ : ∀ s', LoopI X pins σ H s' → EP X pins σ Q (.bool false) s' := fun s' ⟨H1, I1, e1⟩ => ⟨.bl false, H1, I1, rfl, q H1 e1⟩
  have run := has_none (B := X.A) h ⟨hr, rfl⟩ rx hl hd (Q := fun r s' => r = .bool false ∧ LoopI X pins σ H s') (fun s' z => ⟨rfl, z⟩) _ 0 rfl s ⟨H, I, Ext.rfl'⟩
  refine wpAny_bind (wpAny_contains_slot (id := "list.__contains__") ⟨_, eo, rfl⟩ F.slot_list_contains (wpAny_mono (GQ.call_here (Q := fun r s' => r = .bool false ∧ LoopI X pins σ H s') F.slot_list_contains ⟨_, eo, rfl⟩ F.entry_list_contains (F.args_list_contains_2 _ _) ?_) (fun r s' z => ?_) fun _ _ e => e))
  · obtain ⟨hp, g, d, tk, os⟩ := s
    wp_walk
    exact ⟨plainId_quiet MeetsSeq.plain_contains_loop _, codeAny_builtin MeetsSeq.entry_contains_loop (by
      rw [Around.under_plainId MeetsSeq.plain_contains_loop _]
      exact run)⟩
  · obtain ⟨rfl, z⟩ := z
    exact wpAny_truthy_bool (wpAny_pure (end_ s' z))
end
end KpR

namespace KpR
open PySem PySem.Spec PyProof.Rows L2
/-- a callee of which nothing comes -/
theorem passF {X : Cx} : Passes (L2.CX X.prog X.w) X (fun _ _ _ => False) := fun _ _ _ _ _ _ _ ⟨_, _, _, _, _, _, _, _, _, _, _, _, z⟩ => z.elim
/-- what a callee in a try's body may raise: whatever the locals are -/
def anyL (n : Nat) (W : WX) : XK := fun cls d H => ∀ σ : L2.St, σ.length = n → W cls d σ H
theorem passL {X : Cx} {W : WX} {n : Nat} (tk : Takes X W) (hn : X.N.length = n) : Passes (L2.CX X.prog X.w) X (anyL n W) := fun _ σ _ _ e s' I c => tk e s' (XE.of_call I (fun _ _ _ h => h σ (by rw [← hn] <;> exact I.len)) c)
/-- a call by keywords of a def without defaults -/
theorem kbOf {K : PySem.W.Frag} {fd : FuncData} {ps ks : List Str} {n : Nat} {g : List Value → List Value → List Value} {gV : List V → List V → List V}
    (h : ∀ us ws : List Value, us.length = n → ws.length = ks.length → bindArgs fd ⟨us, ks.zip ws⟩ = pure (ps.zip (g us ws))) (r : ∀ {vs : List V} {us : List Value} {zs : List V} {ws : List Value}, Vals vs us → Vals zs ws → Vals (gV vs zs) (g us ws)) : KBn K fd ps n ks g gV :=
  ⟨fun s us ws _ l1 l2 => .of_eq (h us ws l1 l2), r⟩
/-- a builtin's type against an own class -/
theorem kit_tc {K : PySem.W.Frag} {T : String} {C : Addr} {b : Bool} (h1 : PySem.W.isClsIn K C = true) (h2 : PySem.W.typeIn K (.ref C) = some (.type "type")) (h3 : PySem.W.subIn K (.type T) (.ref C) = some b) : PySem.W.kitOne K (.type T) (.ref C) = some b := by
  have ne : ¬ (Value.type T == Value.ref C) = true := fun z => nomatch eq_of_beq z
  unfold PySem.W.kitOne
  rw [if_neg ne]
  show (if ((PySem.W.clsIn K C).isSome && PySem.W.typeIn K (.ref C) == some (.type "type")) = true then PySem.W.subIn K (.type T) (.ref C) else none) = some b
  rw [show (PySem.W.clsIn K C).isSome = true from h1, h2, if_pos (by rfl)]
  exact h3
/-- the first clause takes it -/
def wFst (K : PySem.W.Frag) (c : Value) (i : Nat) (tz : Addr → Value → Option Addr → TS) (D : Ends) : WX := fun cls d σ H =>
  PySem.W.exmOne K cls c = some true ∧ ∀ a, H a = none → tz a cls d ⟨fun τ G => D.nx (τ.set i none) G, D.rt, fun τ G => D.bk (τ.set i none) G, fun τ G => D.ct (τ.set i none) G⟩ (σ.set i (some (.ref a))) H
section
variable {X : Cx} {x n : Str} {c : Value} {i : Nat} {body rest : List Stmt} {z₀ : Stmt} {more : List ExceptHandler} {pn pt pw : Pos} {tb : WX → TS} {tz : Addr → Value → Option Addr → TS}
theorem ps_try_fst (st : X.stack = X.env :: X.outer) (fr : X.env.frame = some X.env.locals) (nd : X.N.Nodup) (at_ : X.N[i]? = some n) (lo : X.env.kindOf n = some .local) (nm : Names X x c)
    (bd : ∀ (W : WX) (qn : List (Addr × Obj)) (xe : Value → Shared → Prop), Takes (X.tr qn xe) W → PassesOwn (model X.prog X.w) X.A X.env xe → PSs (X.tr qn xe) body (tb W))
    (su : ∀ (e : Addr) (oe : Obj) (cls : Value) (d : Option Addr) (qn : List (Addr × Obj)), Zc cls d oe → (∃ fs, oe.data = .fields fs) → PSs (X.suite e ((e, oe) :: qn)) (z₀ :: rest) (tz e cls d)) :
    PS X (.Try body (.ExceptHandler (some (.Name x pn)) (some n) (z₀ :: rest) pw :: more) [] [] pt) (fun D σ H => tb (wFst X.K c i tz D) D σ H) := by
  refine ⟨fun pins s σ H D I hyp => ?_⟩
  have okX := I.ok
  have afr : X.A.frames = some (X.env :: X.outer) := by rw [okX.frames, st]
  have lcl : Loc X.env.scope n := .inl lo
  let hs := ExceptHandler.ExceptHandler (some (.Name x pn)) (some n) (z₀ :: rest) pw :: more
  refine wpAny_Try_except ?_
  refine wpAny_mono ((bd (wFst X.K c i tz D) (X.pn ++ pins) (fun e t1 => wpAny (model X.prog X.w) X.A (noteFrame e X.env) (fun _ t2 => wpAny (model X.prog X.w) X.A (setFlight e none) (fun _ t3 =>
    wpAny (model X.prog X.w) X.A (handleBy e X.env hs) (SP X pins D) X.xe t3) X.xe t2) X.xe t1) (fun u t air => ?_) PassesOwn.looking).run [] s σ H D (I.toTry _) hyp) (fun f t done => ?_) (fun _ _ air => air)
  · obtain ⟨e, G, sI, pq, τ, H1, cls, d, rfl, J0, near, upS, sky0, free, osE, bare, hit, go⟩ := air
    have J : Inv X pins τ H1 sI := J0.ofTry okX
    have sky : Sky G (X.env :: X.outer) e (Zc cls d) X.env.locals t.heap := by rw [← st] <;> exact sky0
    show wpAny (model X.prog X.w) X.A (noteFrame (.ref e) X.env) _ _ _
    refine Sky.land Zc.steady afr fr sky fun hp1 fly1 up1 => ?_
    have J1 : Inv X pins τ H1 { t with heap := hp1 } := J.landed near fly1.1 (upS.trans up1) osE bare
    obtain ⟨o1, fs1, at1, z1, dat1⟩ := fly1.there
    have off : e ∉ frs (X.env :: X.outer) := fun mem => by
      obtain ⟨_, o2, at2, no2⟩ := fly1.2.2.1.mem mem
      have q : o1 = o2 := Option.some.inj (at1.symm.trans at2)
      subst q
      exact no2 _ dat1
    have offL : e ≠ X.env.locals := fun q => off (List.mem_filterMap.mpr ⟨X.env, List.mem_cons_self, by rw [fr, q]⟩)
    have offF : e ∉ X.fs := fun mem => by
      obtain ⟨y, hy, q⟩ := List.mem_filterMap.mp mem
      exact off (List.mem_filterMap.mpr ⟨y, List.mem_cons_of_mem _ hy, q⟩)
    have S1 := J1.suite at1 dat1 free offL offF
    refine wpAny_handleBy_cons (codeAny_handlers_test ?_) (fun q => nomatch q)
    have ty : PySem.W.Looks (model X.prog X.w) hp1 (typeOf (.ref e)) cls := fun A Q E s k q => wpAny_typeOf_ref (k _ _ at1) (by rw [z1.1] <;> exact q)
    have mt := PySem.W.exm_one (M := model X.prog X.w) (J1.kIn) ty hit
    have look : ∀ {Q : Value → Shared → Prop} {E : Value → Shared → Prop}, Q c { t with heap := hp1 } → wpAny (model X.prog X.w) (X.A.mark (some (.ref e))) (eval (.Name x pn) X.env) Q E { t with heap := hp1 } := fun {Q E} q => by
      obtain ⟨gl, nd2, own | ⟨none_, boot, nn⟩⟩ := nm
      · exact ld_glob (X := X.suite e ((e, o1) :: (X.pn ++ pins))) S1 gl own q nd2
      · exact ld_blt (X := X.suite e ((e, o1) :: (X.pn ++ pins))) S1 gl none_ boot q nn nd2
    refine look (mt.here ?_)
    refine codeAny_handlers_suite_as ?_
    refine HandSPX.lands_againZ fly1 fun hp2 fly2 up2 => ?_
    have J2 : Inv X pins τ H1 { t with heap := hp2 } := J.landed near fly2.1 ((upS.trans up1).trans up2) osE bare
    obtain ⟨o2, fs2, at2, z2, dat2⟩ := fly2.there
    have S2 := J2.suite at2 dat2 free offL offF
    refine store_ok (X := X.suite e ((e, o2) :: (X.pn ++ pins))) (v := .ref e) S2 nd at_ lcl rfl (fun t2 S3 => ?_) (.inr lo)
    refine wpAny_mono ((su e o2 cls d (X.pn ++ pins) z2 ⟨_, dat2⟩).run [] t2 _ H1 _ S3 (go e free)) (fun f t3 out => ?_) (fun _ _ q => False.elim q)
    have fin : ∀ {τ1 : L2.St} {H2 : Hp} {R : Shared → Prop}, Inv (X.suite e ((e, o2) :: (X.pn ++ pins))) [] τ1 H2 t3 → (∀ t4, Inv X pins (τ1.set i none) H2 t4 → R t4) →
        wpAny (model X.prog X.w) X.A (do bindName X.env n .none; unbindBehindTheSuite X.env n pw) (fun _ t4 => R t4) X.xe t3 := fun {τ1 H2 R} S4 q => gone_ok (S4.unsuite okX) nd at_ lo q
    match f, out with
    | .next, ⟨_, _, S4, q⟩ => exact fin S4 fun _ J4 => ⟨_, _, J4, q⟩
    | .brk, ⟨_, _, S4, q⟩ => exact fin S4 fun _ J4 => ⟨_, _, J4, q⟩
    | .cont, ⟨_, _, S4, q⟩ => exact fin S4 fun _ J4 => ⟨_, _, J4, q⟩
    | .ret u, ⟨_, _, _, S4, ru, q⟩ => exact fin S4 fun _ J4 => ⟨_, _, _, J4, ru, q⟩
  · match f, done with
    | .next, ⟨_, _, J4, q⟩ => exact wpAny_execs_nil ⟨_, _, J4.ofTry okX, q⟩
    | .brk, ⟨_, _, J4, q⟩ => exact ⟨_, _, J4.ofTry okX, q⟩
    | .cont, ⟨_, _, J4, q⟩ => exact ⟨_, _, J4.ofTry okX, q⟩
    | .ret u, ⟨_, _, _, J4, ru, q⟩ => exact ⟨_, _, _, J4.ofTry okX, ru, q⟩
end
/-- what the written part says of a class with an own == and the != of object, anywhere below object -/
structure NeK (K : PySem.W.Frag) (C f : Addr) : Prop where
  hn : PySem.W.findIn K (.ref C) "__ne__" = some (some (.builtin "object.__ne__"))
  hm : PySem.W.mroIn K C (.type "object") = some true
  hs : PySem.W.findIn K (.ref C) "__eq__" = some (some (.ref f))
  hf : PySem.W.isFn K (.ref f) = true
section
variable {prog : Program} {w : World} {A : Around} {E : Value → Shared → Prop} {s : Shared} {K : PySem.W.Frag} {x y C f : Addr} {ox oy : Obj} {od : Option Obj}
theorem objNe_own {Q : Fin → Shared → Prop} (X : K.In s.heap) (I : PySem.W.InstAt s.heap x ox C od) (c : NeK K C f) (hu : A.units < cLine)
    (h : wpAny (model prog w) A (call (.ref f) [.ref x, .ref y]) (fun v s1 => ∃ b, v = .bool b ∧ Q (.done (.ret (.bool (!b)))) s1) E s) : wpAny (model prog w) A (Builtin.«object.__ne__» ⟨[.ref x, .ref y], []⟩) Q E s := by
  have one : wpAny (model prog w) A (callSpecialIfBound? (.ref x) "__eq__" [.ref y]) (fun r s1 => ∃ b, r = some (.bool b) ∧ Q (.done (.ret (.bool (!b)))) s1) E s :=
    PySem.W.ifBound_K X I c.hs c.hf (wpAny_mono h (fun v s1 ⟨b, e, q⟩ => ⟨b, congrArg some e, q⟩) fun _ _ e => e)
  obtain ⟨hp, g, d, tk, os⟩ := s
  unfold Builtin.«object.__ne__»
  repeat (first
    | with_reducible refine wpAny_cRoomFor hu ?_
    | (refine wpAny_bind (m := callSpecialIfBound? (.ref x) (Str.ofString "__eq__") [.ref y]) (wpAny_mono one (fun r s1 hr => by
          obtain ⟨b, rfl, hq⟩ := hr
          repeat (first | exact hq | exact wpAny_pure hq | exact wpAny_truthy_bool hq | (refine wpAny_bind (m := truthy (.bool _)) (wpAny_truthy_bool ?_)) | wp_step)) fun _ _ e => e))
    | wp_step)
theorem call_objNe {Q : Value → Shared → Prop} (X : K.In s.heap) (I : PySem.W.InstAt s.heap x ox C od) (c : NeK K C f) (hu : A.in1.units < cLine)
    (h : wpAny (model prog w) A.in1 (call (.ref f) [.ref x, .ref y]) (fun v s1 => ∃ b, v = .bool b ∧ Q (.bool (!b)) s1) E s) : wpAny (model prog w) A (call (.builtin "object.__ne__") [.ref x, .ref y]) Q E s :=
  wpAny_call (codeAny_call_builtin F.cmp_object.ne.plain F.cmpEntry_ne (PySem.W.check_slot F.cmpKind_ne F.cmpSplit_ne (I.type.andThen (PySem.W.looks_mroIn X c.hm)) (F.cmpArgs_ne _ _) (objNe_own X I c hu h)))
theorem rc_neK {Q : Value → Shared → Prop} (X : K.In s.heap) (I : PySem.W.InstAt s.heap x ox C od) (c : NeK K C f) (hy : s.heap.get? y = some oy) (cy : oy.cls = .ref C) (hu : A.units + 1 < cLine)
    (h : wpAny (model prog w) A.in1 (call (.ref f) [.ref x, .ref y]) (fun v s1 => ∃ b, v = .bool b ∧ Q (.bool (!b)) s1) E s) : wpAny (model prog w) A (richCompare .NotEq (.ref x) (.ref y)) Q E s := by
  have hu0 : A.units < cLine := Nat.lt_of_succ_lt hu
  have run : wpAny (model prog w) A (callSpecialIfBound? (.ref x) "__ne__" [.ref y]) (fun r s1 => ∃ b, r = some (.bool b) ∧ Q (.bool b) s1) E s := by
    simp only [callSpecialIfBound?, bindSpecialIfBound?]
    refine wpAny_holding (wpAny_bind (wpAny_bind (wpAny_bind (I.type.here ((PySem.W.looks_findIn X c.hn).here ?_)))))
    refine wpAny_bind (wpAny_askSetting (wpAny_ite ?_))
    have fin : wpAny (model prog w) A (call (.builtin "object.__ne__") ([.ref x] ++ [.ref y]) >>= fun v => pure (some v)) (fun r s1 => ∃ b, r = some (.bool b) ∧ Q (.bool b) s1) E s :=
      wpAny_bind (wpAny_mono (call_objNe (Q := fun v s1 => ∃ b, v = .bool b ∧ Q (.bool b) s1) X I c hu (wpAny_mono h (fun v s1 ⟨b, e, q⟩ => ⟨b, e, _, rfl, q⟩) fun _ _ e => e)) (fun v s1 ⟨b, e, q⟩ => wpAny_pure ⟨b, congrArg some e, q⟩) fun _ _ e => e)
    split
    · exact wpAny_bind (wpAny_of_eq (F.cmp_object.ne.bind _) (wpAny_pure (by exact fin)))
    · exact wpAny_tryCatch (wpAny_bind (wpAny_of_eq (F.cmp_object.ne.bind _) (wpAny_pure (by exact fin))))
  have one : wpAny (model prog w) A (tryCompare (.ref x) "__ne__" (.ref y)) (fun r s1 => ∃ b, r = some (.bool b) ∧ Q (.bool b) s1) E s := by
    unfold tryCompare
    refine wpAny_bind (wpAny_mono run (fun r s1 z => ?_) fun _ _ e => e)
    obtain ⟨b, rfl, q⟩ := z
    exact wpAny_pure ⟨b, rfl, q⟩
  unfold richCompare
  simp only [oneThing_ref]
  refine wpAny_holding (wpAny_bind (wpAny_cRoomFor hu0 ?_))
  rw [cmpInfo_NotEq]
  dsimp only
  refine wpAny_bind (I.type.here (wpAny_bind (wpAny_typeOf_ref hy ?_)))
  rw [cy, show (Value.ref C != Value.ref C) = false from by simp]
  simp only [Bool.false_eq_true, if_false]
  refine wpAny_bind (wpAny_pure ?_)
  simp only [Bool.false_eq_true, if_false]
  refine wpAny_bind (wpAny_mono one (fun r s1 z => ?_) fun _ _ e => e)
  obtain ⟨b, rfl, q⟩ := z
  exact wpAny_pure q
end
section
variable {X : Cx} {CX : CXT} {n : Nat} {C f : Addr} {fd : FuncData} {ps : List Str} {R : Addr → V → Bool → Hp → Prop} {E : XK}
/-- x != y of two instances of one such class -/
def rNeK (C : Addr) (R : Addr → V → Bool → Hp → Prop) : R2 := fun x y H Q => ∃ a c b dx dy fs gs, x = .ref a ∧ y = .ref c ∧ H a = some (.ins C dx fs) ∧ H c = some (.ins C dy gs) ∧ R a (.ref c) b H ∧ ∀ H', Ext H H' → Q (.bl (!b)) H'
theorem op_neK (G : FnOk X.prog X.w X.K X.mg X.base CX n f fd ps (spEqB R)) (hc : NeK X.K C f) (hb : Binds X.K fd ps []) (hx : Passes CX X E) (hr : Room (n + 1) X.A) : OpR X (compareOp .NotEq) (rNeK C R) := by
  intro pins s σ H x y v u Q I rx ry hq
  obtain ⟨a, c, b, dx, dy, fs, gs, rfl, rfl, ha, hc1, hR, q⟩ := hq
  cases rx
  cases ry
  obtain ⟨mA, J, _⟩ := ins_get I.hok ha
  obtain ⟨mC, J1, _⟩ := ins_get I.hok hc1
  obtain ⟨od, J, _⟩ := J.look
  obtain ⟨od1, J1, _⟩ := J1.look
  have r1 : Room n X.A.in1 := hr.in1
  have go := own_runB (B := X.A.in1) (y := .ref c) (v := .ref c) G hb hx ⟨r1, rfl⟩ I rfl hR
  show wpAny (model X.prog X.w) X.A (richCompare .NotEq (.ref a) (.ref c)) (EP X pins σ Q) X.xe s
  refine rc_neK I.kIn J hc J1.at_ J1.cls (hu_of hr) (wpAny_mono go (fun r s1 z => ?_) fun _ _ e => e)
  cases r with
  | notImplemented => exact False.elim z
  | bool b' =>
    obtain ⟨e, H1, I1, ex⟩ := z
    cases e
    exact ⟨_, rfl, .bl _, H1, I1, rfl, q H1 ex⟩
  | _ => exact (nomatch z.1)
end
end KpR

namespace KpR
open PySem PySem.Spec PyProof.Rows L2
/-- clause by clause: class, the name's slot, the suite's reading; at the end: what is asked where none takes it -/
def wNam (K : PySem.W.Frag) (Wend : WX) (D : Ends) : List (Value × Nat × (Addr → Value → Option Addr → TS)) → WX
  | [] => Wend
  | (c, i, tz) :: r => fun cls d σ H => ∃ b, PySem.W.exmOne K cls c = some b ∧
    (b = true → ∀ a, H a = none → tz a cls d ⟨fun τ G => D.nx (τ.set i none) G, D.rt, fun τ G => D.bk (τ.set i none) G, fun τ G => D.ct (τ.set i none) G⟩ (σ.set i (some (.ref a))) H) ∧ (b = false → wNam K Wend D r cls d σ H)
/-- the clauses that are looked at; more: those behind them, that are never looked at (Wend is then False) -/
inductive NamOk (X : Cx) (more : List ExceptHandler) : List ExceptHandler → List (Value × Nat × (Addr → Value → Option Addr → TS)) → Prop
  | nil : NamOk X more more []
  | cons {x n : Str} {c : Value} {i : Nat} {tz : Addr → Value → Option Addr → TS} {z₀ : Stmt} {rest : List Stmt} {pn pw : Pos} {hs : List ExceptHandler} {l : List (Value × Nat × (Addr → Value → Option Addr → TS))}
      (at_ : X.N[i]? = some n) (lo : X.env.kindOf n = some .local) (nm : Names X x c)
      (su : ∀ (e : Addr) (oe : Obj) (cls : Value) (d : Option Addr) (qn : List (Addr × Obj)), Zc cls d oe → (∃ fs, oe.data = .fields fs) → PSs (X.suite e ((e, oe) :: qn)) (z₀ :: rest) (tz e cls d)) (r : NamOk X more hs l) :
      NamOk X more (.ExceptHandler (some (.Name x pn)) (some n) (z₀ :: rest) pw :: hs) ((c, i, tz) :: l)
section
variable {X : Cx} {body : List Stmt} {more : List ExceptHandler} {h₀ : ExceptHandler} {hds : List ExceptHandler} {l : List (Value × Nat × (Addr → Value → Option Addr → TS))} {pt : Pos} {tb : WX → TS}
theorem ps_try_nam (st : X.stack = X.env :: X.outer) (fr : X.env.frame = some X.env.locals) (nd : X.N.Nodup)
    (bd : ∀ (W : WX) (qn : List (Addr × Obj)) (xe : Value → Shared → Prop), Takes (X.tr qn xe) W → PassesOwn (model X.prog X.w) X.A X.env xe → PSs (X.tr qn xe) body (tb W))
    (hk : NamOk X more (h₀ :: hds) l) : PS X (.Try body (h₀ :: hds) [] [] pt) (fun D σ H => tb (wNam X.K (fun _ _ _ _ => False) D l) D σ H) := by
  refine ⟨fun pins s σ H D I hyp => ?_⟩
  have okX := I.ok
  have afr : X.A.frames = some (X.env :: X.outer) := by rw [okX.frames, st]
  refine wpAny_Try_except ?_
  refine wpAny_mono ((bd (wNam X.K (fun _ _ _ _ => False) D l) (X.pn ++ pins) (fun e t1 => wpAny (model X.prog X.w) X.A (noteFrame e X.env) (fun _ t2 => wpAny (model X.prog X.w) X.A (setFlight e none) (fun _ t3 =>
    wpAny (model X.prog X.w) X.A (handleBy e X.env (h₀ :: hds)) (SP X pins D) X.xe t3) X.xe t2) X.xe t1) (fun u t air => ?_) PassesOwn.looking).run [] s σ H D (I.toTry _) hyp) (fun f t done => ?_) (fun _ _ air => air)
  · obtain ⟨e, G, sI, pq, τ, H1, cls, d, rfl, J0, near, upS, sky0, free, osE, bare, want⟩ := air
    have J : Inv X pins τ H1 sI := J0.ofTry okX
    have sky : Sky G (X.env :: X.outer) e (Zc cls d) X.env.locals t.heap := by rw [← st] <;> exact sky0
    show wpAny (model X.prog X.w) X.A (noteFrame (.ref e) X.env) _ _ _
    refine Sky.land Zc.steady afr fr sky fun hp1 fly1 up1 => ?_
    have J1 : Inv X pins τ H1 { t with heap := hp1 } := J.landed near fly1.1 (upS.trans up1) osE bare
    obtain ⟨o1, fs1, at1, z1, dat1⟩ := fly1.there
    have off : e ∉ frs (X.env :: X.outer) := fun mem => by
      obtain ⟨_, o2, at2, no2⟩ := fly1.2.2.1.mem mem
      have q : o1 = o2 := Option.some.inj (at1.symm.trans at2)
      subst q
      exact no2 _ dat1
    have offL : e ≠ X.env.locals := fun q => off (List.mem_filterMap.mpr ⟨X.env, List.mem_cons_self, by rw [fr, q]⟩)
    have offF : e ∉ X.fs := fun mem => by
      obtain ⟨y, hy, q⟩ := List.mem_filterMap.mp mem
      exact off (List.mem_filterMap.mpr ⟨y, List.mem_cons_of_mem _ hy, q⟩)
    have S1 := J1.suite at1 dat1 free offL offF
    have ty : PySem.W.Looks (model X.prog X.w) hp1 (typeOf (.ref e)) cls := fun A Q E s k q => wpAny_typeOf_ref (k _ _ at1) (by rw [z1.1] <;> exact q)
    have each : ∀ {hs : List ExceptHandler} {l' : List (Value × Nat × (Addr → Value → Option Addr → TS))}, NamOk X more hs l' → wNam X.K (fun _ _ _ _ => False) D l' cls d τ H1 →
        wpAny (model X.prog X.w) X.A (handleBy (.ref e) X.env hs) (SP X pins D) X.xe { t with heap := hp1 } := by
      intro hs l' ok
      induction ok with
      | nil => exact fun w => w.elim
      | @cons x n c i tz z₀ rest pn pw hs2 l2 at_ lo nm su r ih =>
        rintro ⟨b, hit, go, on⟩
        have lcl : Loc X.env.scope n := .inl lo
        refine wpAny_handleBy_cons (codeAny_handlers_test ?_) (fun q => nomatch q)
        have mt := PySem.W.exm_one (M := model X.prog X.w) (J1.kIn) ty hit
        have look : ∀ {Q : Value → Shared → Prop} {E : Value → Shared → Prop}, Q c { t with heap := hp1 } → wpAny (model X.prog X.w) (X.A.mark (some (.ref e))) (eval (.Name x pn) X.env) Q E { t with heap := hp1 } := fun {Q E} q => by
          obtain ⟨gl, nd2, own | ⟨none_, boot, nn⟩⟩ := nm
          · exact ld_glob (X := X.suite e ((e, o1) :: (X.pn ++ pins))) S1 gl own q nd2
          · exact ld_blt (X := X.suite e ((e, o1) :: (X.pn ++ pins))) S1 gl none_ boot q nn nd2
        refine look (mt.here ?_)
        cases b with
        | false =>
          show wpAny _ X.A (handleBy (.ref e) X.env hs2) _ _ _
          exact ih (on rfl)
        | true =>
          refine codeAny_handlers_suite_as ?_
          refine HandSPX.lands_againZ fly1 fun hp2 fly2 up2 => ?_
          have J2 : Inv X pins τ H1 { t with heap := hp2 } := J.landed near fly2.1 ((upS.trans up1).trans up2) osE bare
          obtain ⟨o2, fs2, at2, z2, dat2⟩ := fly2.there
          have S2 := J2.suite at2 dat2 free offL offF
          refine store_ok (X := X.suite e ((e, o2) :: (X.pn ++ pins))) (v := .ref e) S2 nd at_ lcl rfl (fun t2 S3 => ?_) (.inr lo)
          refine wpAny_mono ((su e o2 cls d (X.pn ++ pins) z2 ⟨_, dat2⟩).run [] t2 _ H1 _ S3 (go rfl e free)) (fun f t3 out => ?_) (fun _ _ q => False.elim q)
          have fin : ∀ {τ1 : L2.St} {H2 : Hp} {R : Shared → Prop}, Inv (X.suite e ((e, o2) :: (X.pn ++ pins))) [] τ1 H2 t3 → (∀ t4, Inv X pins (τ1.set i none) H2 t4 → R t4) →
              wpAny (model X.prog X.w) X.A (do bindName X.env n .none; unbindBehindTheSuite X.env n pw) (fun _ t4 => R t4) X.xe t3 := fun {τ1 H2 R} S4 q => gone_ok (S4.unsuite okX) nd at_ lo q
          match f, out with
          | .next, ⟨_, _, S4, q⟩ => exact fin S4 fun _ J4 => ⟨_, _, J4, q⟩
          | .brk, ⟨_, _, S4, q⟩ => exact fin S4 fun _ J4 => ⟨_, _, J4, q⟩
          | .cont, ⟨_, _, S4, q⟩ => exact fin S4 fun _ J4 => ⟨_, _, J4, q⟩
          | .ret u, ⟨_, _, _, S4, ru, q⟩ => exact fin S4 fun _ J4 => ⟨_, _, _, J4, ru, q⟩
    exact each hk want
  · match f, done with
    | .next, ⟨_, _, J4, q⟩ => exact wpAny_execs_nil ⟨_, _, J4.ofTry okX, q⟩
    | .brk, ⟨_, _, J4, q⟩ => exact ⟨_, _, J4.ofTry okX, q⟩
    | .cont, ⟨_, _, J4, q⟩ => exact ⟨_, _, J4.ofTry okX, q⟩
    | .ret u, ⟨_, _, _, J4, ru, q⟩ => exact ⟨_, _, _, J4.ofTry okX, ru, q⟩
end
end KpR

namespace KpR
open PySem PySem.Spec PyProof.Rows L2
open PySem.AutoSeq1 (wpAny_loadPart')
section
variable {prog : Program} {w : World} {A : Around} {R : Result → Shared → Prop}
/-- up to the first pair that is unlike -/
theorem tup_either (l b : Addr) (us vs : Array Value) (n n2 : Nat) (dd dd2 : Option Addr) (sl sl2 : Array (Option Value)) (ans : Nat → Bool) (J : Shared → Prop)
    (turn : ∀ i (h1 : i < us.size) (h2 : i < vs.size) s, J s → wpAny (model prog w) A.in1 (eqBool us[i] vs[i]) (fun r s' => r = ans i ∧ J s') (fun e s' => R (.error e) s') s)
    (no : ∀ i, i < us.size → i < vs.size → ans i = false → ∀ s, J s → R (.ok (.ret (.bool false))) s)
    (fin : (∀ i, i < us.size → i < vs.size → ans i = true) → ∀ s, J s → R (.ok (.ret (.bool (us.size == vs.size)))) s) {s : Shared}
    (hl : s.heap.get? l = some { cls := .type "tuple", dict := dd, data := .seq us n, slots := sl }) (hb : s.heap.get? b = some { cls := .type "tuple", dict := dd2, data := .seq vs n2, slots := sl2 }) (h : J s) :
    wpAny (model prog w) A.in1 (Builtin.«tuple.__eq__» ⟨[.ref l, .ref b], []⟩) (GQ.FinOf prog w A R) (fun e s' => R (.error e) s') s := by
  have f2 := AutoSeq1.sub_tuple_tuple
  have zl : (us.toList.zip vs.toList).length = min us.size vs.size := by simp
  have h0 := h
  obtain ⟨hp, g, d, tk, os⟩ := s
  wp_walk using wpAny_loadPart' hl, wpAny_loadPart' hb, wpAny_forIn_list _ (fun rest q s' => q.1 = none ∧ J s' ∧ ∃ i, rest = (us.toList.zip vs.toList).drop i ∧ i ≤ min us.size vs.size ∧ ∀ j, j < i → ans j = true) _
  case turn =>
    rintro ⟨y, x⟩ rest q s' ⟨hq, hJ, i, hz, hi, before⟩
    have lt : i < (us.toList.zip vs.toList).length := by
      rcases Nat.lt_or_ge i (us.toList.zip vs.toList).length with c | c
      · exact c
      · rw [List.drop_of_length_le c] at hz
        cases hz
    have lm := Nat.lt_min.mp (zl ▸ lt)
    rw [List.drop_eq_getElem_cons lt] at hz
    injection hz with hp1 hrest
    have ey : y = us[i]'lm.1 := by simpa using congrArg Prod.fst hp1
    have ex : x = vs[i]'lm.2 := by simpa using congrArg Prod.snd hp1
    subst ey ex
    refine wpAny_bind (wpAny_mono (turn i lm.1 lm.2 s' hJ) (fun r s2 z => ?_) fun _ _ e => e)
    obtain ⟨rfl, J2⟩ := z
    cases c : ans i with
    | true =>
      wp_walk
      refine ⟨rfl, J2, i + 1, hrest, Nat.lt_min.mpr lm, fun j hj => ?_⟩
      by_cases e : j = i
      · rw [e]
        exact c
      · exact before j (by omega)
    | false =>
      have out := no i lm.1 lm.2 c s2 J2
      wp_walk
      exact out
  case fin =>
    rintro ⟨q1, q2⟩ s' ⟨hq, hJ, i, hz, hi, before⟩
    simp only at hq
    subst hq
    have ge : min us.size vs.size ≤ i := by
      rcases Nat.lt_or_ge i (us.toList.zip vs.toList).length with c | c
      · rw [List.drop_eq_getElem_cons c] at hz
        cases hz
      · exact zl ▸ c
    have out := fin (fun j h1 h2 => before j (Nat.lt_of_lt_of_le (Nat.lt_min.mpr ⟨h1, h2⟩) ge)) s' hJ
    wp_walk
    simpa [Builtin.Tuple.tupleCompareSizes] using out
  case h =>
    exact ⟨rfl, h0, 0, rfl, Nat.zero_le _, fun j hj => absurd hj (Nat.not_lt_zero _)⟩
end
/-- pair by pair; the answer is that of all of them, and of the lengths -/
def DTupB (K : PySem.W.Frag) (D : EqvB) : EqvB := fun x y b H => ∃ a c xs ys, ∃ an : Nat → Bool, x = .ref a ∧ y = .ref c ∧ SqT K H a xs ∧ SqT K H c ys ∧
  (∀ i u v, xs[i]? = some u → ys[i]? = some v → ∀ H', Ext H H' → D u v (an i) H') ∧ (b = true ↔ xs.length = ys.length ∧ ∀ i, i < xs.length → an i = true)
section
variable {X : Cx} {n : Nat} {D : EqvB}
theorem rcB_tup (h : EqB X n D) : RcB X (n + 1) (DTupB X.K D) := by
  intro B pins s σ H x y b u v sb I rx ry hd
  obtain ⟨a, c, xs, ys, an, rfl, rfl, ha, hc, hp, hb⟩ := hd
  cases rx
  cases ry
  obtain ⟨us, r1, ⟨⟨cl, dd, dt, sl⟩, e1, e2, k, e3⟩, _⟩ := I.tuple ha
  obtain ⟨vs, r2, ⟨⟨cl2, dd2, dt2, sl2⟩, g1, g2, k2, g3⟩, _⟩ := I.tuple hc
  simp only at e2 e3 g2 g3
  subst e2 e3 g2 g3
  have l1 : us.toArray.size = xs.length := by rw [List.size_toArray, r1.length]
  have l2 : vs.toArray.size = ys.length := by rw [List.size_toArray, r2.length]
  refine wpAny_richCompare_same_room (op := .Eq) ⟨_, e1, rfl⟩ ⟨_, g1, rfl⟩ F.slot_tuple_eq (GQ.call_here F.slot_tuple_eq ⟨_, e1, rfl⟩ F.entry_tuple_eq (F.args_tuple_eq_2 _ _) ?_) sb.room.units0
  refine tup_either (R := wants (fun r s' => r ≠ .notImplemented ∧ (r = .bool b ∧ LoopI X pins σ H s')) X.xe) a c us.toArray vs.toArray k k2 dd dd2 sl sl2 an (LoopI X pins σ H) (fun i h1 h2 s1 hJ => ?_) (fun i h1 h2 no s1 hJ => ?_) (fun all s1 hJ => ?_) e1 g1 ⟨H, I, Ext.rfl'⟩
  · obtain ⟨H1, I1, x1⟩ := hJ
    have i1 : i < xs.length := by omega
    have i2 : i < ys.length := by omega
    obtain ⟨p, hp1, rp⟩ := r1.get (List.getElem?_eq_getElem i1)
    obtain ⟨q, hq1, rq⟩ := r2.get (List.getElem?_eq_getElem i2)
    have ep : us.toArray[i] = p := by
      obtain ⟨_, z⟩ := List.getElem?_eq_some_iff.mp hp1
      simpa using z
    have eq : vs.toArray[i] = q := by
      obtain ⟨_, z⟩ := List.getElem?_eq_some_iff.mp hq1
      simpa using z
    rw [ep, eq]
    refine wpAny_mono (h B.in1 pins s1 σ H1 _ _ (an i) p q sb.in1 I1 rp rq (hp i _ _ (List.getElem?_eq_getElem i1) (List.getElem?_eq_getElem i2) H1 x1)) (fun r s2 z => ?_) fun _ _ e => e
    obtain ⟨er, H2, I2, x2⟩ := z
    exact ⟨er, H2, I2, x1.trans x2⟩
  · have eb : b = false := by
      cases b with
      | false => rfl
      | true =>
        have z := (hb.mp rfl).2 i (by omega)
        rw [no] at z
        cases z
    subst eb
    exact ⟨(fun z => nomatch z), rfl, hJ⟩
  · have eb : (us.toArray.size == vs.toArray.size) = b := by
      rw [l1, l2]
      cases b with
      | true => exact beq_iff_eq.mpr (hb.mp rfl).1
      | false =>
        refine beq_eq_false_iff_ne.mpr fun e => ?_
        have z := hb.mpr ⟨e, fun i hi => all i (by omega) (by omega)⟩
        cases z
    rw [eb]
    exact ⟨(fun z => nomatch z), rfl, hJ⟩
end
end KpR

namespace KpR
open PySem PySem.Spec PyProof.Rows L2
open PySem.AutoSeq1 (wpAny_loadPart')
section
variable {prog : Program} {w : World} {A : Around} {R : Result → Shared → Prop}
theorem tup_ne_like (l b : Addr) (us vs : Array Value) (n n2 : Nat) (dd dd2 : Option Addr) (sl sl2 : Array (Option Value)) (sz : us.size = vs.size) (J : Shared → Prop)
    (turn : ∀ i (h1 : i < us.size) (h2 : i < vs.size) s, J s → wpAny (model prog w) A.in1 (eqBool us[i] vs[i]) (fun r s' => r = true ∧ J s') (fun e s' => R (.error e) s') s)
    (fin : ∀ s, J s → R (.ok (.ret (.bool false))) s) {s : Shared}
    (hl : s.heap.get? l = some { cls := .type "tuple", dict := dd, data := .seq us n, slots := sl }) (hb : s.heap.get? b = some { cls := .type "tuple", dict := dd2, data := .seq vs n2, slots := sl2 }) (h : J s) :
    wpAny (model prog w) A.in1 (Builtin.«tuple.__ne__» ⟨[.ref l, .ref b], []⟩) (GQ.FinOf prog w A R) (fun e s' => R (.error e) s') s := by
  have f2 := AutoSeq1.sub_tuple_tuple
  have zl : (us.toList.zip vs.toList).length = us.size := by simp [sz]
  have h0 := h
  obtain ⟨hp, g, d, tk, os⟩ := s
  wp_walk using wpAny_loadPart' hl, wpAny_loadPart' hb, wpAny_forIn_list _ (fun rest q s' => q.1 = none ∧ J s' ∧ ∃ i, rest = (us.toList.zip vs.toList).drop i ∧ i ≤ us.size) _
  case turn =>
    rintro ⟨y, x⟩ rest q s' ⟨hq, hJ, i, hz, hi⟩
    have lt : i < (us.toList.zip vs.toList).length := by
      rcases Nat.lt_or_ge i (us.toList.zip vs.toList).length with c | c
      · exact c
      · rw [List.drop_of_length_le c] at hz
        cases hz
    have l1 : i < us.size := zl ▸ lt
    have l2 : i < vs.size := sz ▸ l1
    rw [List.drop_eq_getElem_cons lt] at hz
    injection hz with hp1 hrest
    have ey : y = us[i] := by simpa using congrArg Prod.fst hp1
    have ex : x = vs[i] := by simpa using congrArg Prod.snd hp1
    subst ey ex
    refine wpAny_bind (wpAny_mono (turn i l1 l2 s' hJ) (fun r s2 z => ?_) fun _ _ e => e)
    obtain ⟨rfl, J2⟩ := z
    wp_walk
    exact ⟨rfl, J2, i + 1, hrest, l1⟩
  case fin =>
    rintro ⟨q1, q2⟩ s' ⟨hq, hJ, i, hz, hi⟩
    simp only at hq
    subst hq
    have out := fin s' hJ
    wp_walk
    simpa [Builtin.Tuple.tupleCompareSizes, sz] using out
  case h =>
    exact ⟨rfl, h0, 0, rfl, Nat.zero_le _⟩
end
section
variable {X : Cx} {n : Nat} {D : EqvB}
/-- x != y, two tuples that are equal pair by pair -/
def rNeTup (K : PySem.W.Frag) (D : EqvB) : R2 := fun x y H Q => ∃ (a c : Addr) (xs ys : List V), x = .ref a ∧ y = .ref c ∧ SqT K H a xs ∧ SqT K H c ys ∧ xs.length = ys.length ∧
  (∀ (i : Nat) (u v : V), xs[i]? = some u → ys[i]? = some v → ∀ H' : Hp, Ext H H' → D u v true H') ∧ ∀ H' : Hp, Ext H H' → Q (.bl false) H'
theorem op_neTup (h : EqB X n D) (hr : Room (n + 1) X.A) : OpR X (compareOp .NotEq) (rNeTup X.K D) := by
  intro pins s σ H x y u v Q I rx ry hd
  obtain ⟨a, c, xs, ys, rfl, rfl, ha, hc, hlen, hp, q⟩ := hd
  cases rx
  cases ry
  obtain ⟨us, r1, ⟨⟨cl, dd, dt, sl⟩, e1, e2, k, e3⟩, _⟩ := I.tuple ha
  obtain ⟨vs, r2, ⟨⟨cl2, dd2, dt2, sl2⟩, g1, g2, k2, g3⟩, _⟩ := I.tuple hc
  simp only at e2 e3 g2 g3
  subst e2 e3 g2 g3
  have l1 : us.toArray.size = xs.length := by rw [List.size_toArray, r1.length]
  have l2 : vs.toArray.size = ys.length := by rw [List.size_toArray, r2.length]
  have sb : Sub X (n + 1) X.A := ⟨hr, rfl⟩
  show wpAny (model X.prog X.w) X.A (richCompare .NotEq (.ref a) (.ref c)) (EP X pins σ Q) X.xe s
  refine wpAny_richCompare_same_room (op := .NotEq) ⟨_, e1, rfl⟩ ⟨_, g1, rfl⟩ F.slot_tuple_ne (GQ.call_here F.slot_tuple_ne ⟨_, e1, rfl⟩ F.entry_tuple_ne (F.args_tuple_ne_2 _ _) ?_) hr.units0
  refine tup_ne_like (R := wants (fun r s' => r ≠ .notImplemented ∧ EP X pins σ Q r s') X.xe) a c us.toArray vs.toArray k k2 dd dd2 sl sl2 (by omega) (LoopI X pins σ H) (fun i h1 h2 s1 hJ => ?_) (fun s1 hJ => ?_) e1 g1 ⟨H, I, Ext.rfl'⟩
  · obtain ⟨H1, I1, x1⟩ := hJ
    have i1 : i < xs.length := by omega
    have i2 : i < ys.length := by omega
    obtain ⟨p, hp1, rp⟩ := r1.get (List.getElem?_eq_getElem i1)
    obtain ⟨q1, hq1, rq⟩ := r2.get (List.getElem?_eq_getElem i2)
    have ep : us.toArray[i] = p := by
      obtain ⟨_, z⟩ := List.getElem?_eq_some_iff.mp hp1
      simpa using z
    have eq : vs.toArray[i] = q1 := by
      obtain ⟨_, z⟩ := List.getElem?_eq_some_iff.mp hq1
      simpa using z
    rw [ep, eq]
    refine wpAny_mono (h X.A.in1 pins s1 σ H1 _ _ true p q1 sb.in1 I1 rp rq (hp i _ _ (List.getElem?_eq_getElem i1) (List.getElem?_eq_getElem i2) H1 x1)) (fun r s2 z => ?_) fun _ _ e => e
    obtain ⟨er, H2, I2, x2⟩ := z
    exact ⟨er, H2, I2, x1.trans x2⟩
  · obtain ⟨H1, I1, x1⟩ := hJ
    exact ⟨(fun z => nomatch z), .bl false, H1, I1, rfl, q H1 x1⟩
end
end KpR

namespace KpR
open PySem PySem.Spec PyProof.Rows L2
section
variable {α : Type} {K : PySem.W.Frag} {H : Hp} {f : α → PyData}
theorem dp_map {R : V → α → Prop} (h : ∀ t x, R t x → Dp K H t (f x)) : ∀ {ts : List V} {l : List α}, A2 R ts l → DpAll K H ts (l.map f)
  | [], [], _ => .nil
  | _ :: _, _ :: _, k => .cons (h _ _ k.1) (dp_map h k.2)
  | [], _ :: _, k => k.elim
  | _ :: _, [], k => k.elim
theorem lay_map : ∀ {l : List α}, (∀ x ∈ l, (f x).canLay0 = true) → PyData.canLayAll0 (l.map f) = true
  | [], _ => by simp [PyData.canLayAll0]
  | x :: l, h => by
    simp only [List.map_cons, PyData.canLayAll0, h x (List.mem_cons_self ..), Bool.true_and]
    exact lay_map fun y hy => h y (List.mem_cons_of_mem _ hy)
theorem dep_map {n : Nat} : ∀ {l : List α}, (∀ x ∈ l, (f x).depth ≤ n) → PyData.depthAll (l.map f) ≤ n
  | [], _ => by simp [PyData.depthAll]
  | x :: l, h => by
    simp only [List.map_cons, PyData.depthAll]
    exact Nat.max_le.mpr ⟨h x (List.mem_cons_self ..), dep_map fun y hy => h y (List.mem_cons_of_mem _ hy)⟩
theorem eqv_map [DecidableEq α] (h : ∀ x y, (f x).eqv (f y) = decide (x = y)) : ∀ {l m : List α}, PyData.eqvAll (l.map f) (m.map f) = decide (l = m)
  | [], [] => by simp [PyData.eqvAll]
  | [], _ :: _ => by simp [PyData.eqvAll]
  | _ :: _, [] => by simp [PyData.eqvAll]
  | x :: l, y :: m => by
    simp only [List.map_cons, PyData.eqvAll, h, eqv_map h (l := l) (m := m)]
    by_cases h1 : x = y
    · by_cases h2 : l = m <;> simp [h1, h2]
    · simp [h1]
/-- what can be compared: of no great depth -/
structure Flat (n : Nat) (d : PyData) : Prop where
  lay : d.canLay0 = true
  dep : d.depth ≤ n
theorem Flat.sh {n : Nat} {d : PyData} (h : Flat n d) (hn : n ≤ 64) : SeqAt.shaped d = true := by
  unfold SeqAt.shaped
  rw [h.lay, decide_eq_true (Nat.le_trans h.dep hn)]
  rfl
theorem Flat.list {n : Nat} {l : List α} (h : ∀ x ∈ l, Flat n (f x)) : Flat (n + 1) (.list (l.map f)) :=
  ⟨by simp only [PyData.canLay0]; exact lay_map fun x hx => (h x hx).lay, by simp only [PyData.depth]; exact Nat.succ_le_succ (dep_map fun x hx => (h x hx).dep)⟩
theorem Flat.tup {n : Nat} {l : List α} (h : ∀ x ∈ l, Flat n (f x)) : Flat (n + 1) (.tuple (l.map f)) :=
  ⟨by simp only [PyData.canLay0]; exact lay_map fun x hx => (h x hx).lay, by simp only [PyData.depth]; exact Nat.succ_le_succ (dep_map fun x hx => (h x hx).dep)⟩
theorem Flat.int {n : Nat} {i : Int} : Flat n (.int i) := ⟨rfl, Nat.zero_le _⟩
theorem Flat.bl {n : Nat} {b : Bool} : Flat n (.bool b) := ⟨rfl, Nat.zero_le _⟩
theorem Flat.non {n : Nat} : Flat n .none := ⟨rfl, Nat.zero_le _⟩
theorem Flat.str {n : Nat} {x : Str} (h : (PyData.str x).canLay0 = true) : Flat n (.str x) := ⟨h, Nat.zero_le _⟩
theorem Flat.mono {n m : Nat} {d : PyData} (h : Flat n d) (k : n ≤ m) : Flat m d := ⟨h.lay, Nat.le_trans h.dep k⟩
theorem eqv_int {i j : Int} : PyData.eqv (.int i) (.int j) = decide (i = j) := by
  simp only [PyData.eqv]
  by_cases h : i = j <;> simp [h]
/-- != and == of data -/
theorem neD {x y : V} {d e : PyData} {Q : VK} (h1 : Dp K H x d) (h2 : Dp K H y e) (f1 : Flat 60 d) (f2 : Flat 60 e) (q : Q (.bl (!PyData.eqv d e)) H) : rNeD K x y H Q := ⟨d, e, h1, h2, f1.sh (by decide), f2.sh (by decide), q⟩
theorem eqD {x y : V} {d e : PyData} {Q : VK} (h1 : Dp K H x d) (h2 : Dp K H y e) (f1 : Flat 60 d) (f2 : Flat 60 e) (q : Q (.bl (PyData.eqv d e)) H) : rEqD K x y H Q := ⟨d, e, h1, h2, f1.sh (by decide), f2.sh (by decide), q⟩
end
end KpR

namespace KpR
open PySem PySem.Spec PySem.Calls PyProof.Rows L2
section
variable {prog : Program} {w : World} {K : PySem.W.Frag} {x D : Addr}
/-- what a class says of itself on its instances, whatever fields they have -/
theorem fo_class {od : Option Obj} (hc : (PySem.W.clsIn K D).isSome = true) (ha : PySem.W.findIn K (.ref D) "__class__" = some (some (.builtin "object.__class__"))) (hg : PySem.W.specialIn K (.builtin "object.__class__") "__get__" = some (some (.builtin "getset_descriptor.__get__"))) (ht : PySem.W.takesIn K (.builtin "object.__class__") = some true) :
    PySem.W.findObj K D od "__class__" = some (.bind (.builtin "getset_descriptor.__get__") (.builtin "object.__class__")) := by
  obtain ⟨cd, q⟩ := Option.isSome_iff_exists.mp hc
  unfold PySem.W.findObj
  rw [q, Option.bind_some, ha, Option.bind_some]
  simp [hg, ht]
theorem exc_class (C : ExcC K D) {A : Around} {E : Value → Shared → Prop} {Q : Option Value → Shared → Prop} {s : Shared} {ox : Obj} {od : Option Obj} (X : K.In s.heap) (J : PySem.W.InstAt s.heap x ox D od) (q : Q (some (.ref D)) { s with toks := s.toks + 1 }) :
    wpAny (model prog w) A (getAttr? (.ref x) "__class__") Q E s := by
  have fo : PySem.W.findObj K D od "__class__" = _ := fo_class (by obtain ⟨cd, hc, _⟩ := PySem.W.any_some C.hd; rw [hc]; rfl) C.ha C.hn C.ht
  obtain ⟨hp, sg, sd, st, so⟩ := s
  have ty := J.type (M := model prog w)
  have l1 := PySem.W.looks_findIn (M := model prog w) X C.hg
  have l2 := PySem.W.looks_findIn (M := model prog w) X C.hk
  have l3 := PySem.W.looks_find (M := model prog w) X J fo
  have isx : PySem.W.Looks (model prog w) hp (isInstance (.ref x) (.type "BaseException")) true := ty.andThen (PySem.W.looks_subIn X C.hs)
  have n1 : (Value.builtin "BaseException.__getattribute__" == Value.builtin "object.__getattribute__") = false := by decide +kernel
  have n2 : (onTheHeap (Value.ref D) && Value.builtin "BaseException.__getattribute__" == Value.builtin "object.__getattribute__") = false := by rw [n1]; rfl
  have n3 : (false && onTheHeap (Value.builtin "BaseException.__getattribute__")) = false := rfl
  unfold getAttr? getAttrBy? getAttrBy
  refine wpAny_bind (wpAny_mkText (wpAny_bind (wpAny_attempt (wpAny_holding (wpAny_bind (ty.at (wpAny_bind (l1.at ?_))))))))
  refine (congrArg (fun c : Bool => wpAny (model prog w) A (if c = true then _ else _) _ _ _) n2).mpr ?_
  rw [if_neg Bool.false_ne_true]
  unfold getAttrByItsOwn hookBefore
  refine wpAny_bind ?_
  rw [if_pos (show onTheHeap (Value.ref D) = true from rfl)]
  refine l2.at (wpAny_bind (wpAny_attempt (wpAny_holding ?_)))
  unfold callGetattribute
  rw [n3, if_neg Bool.false_ne_true]
  unfold boundAndCalled
  rw [PySem.F.excAttr_ValueError.ga.bind (.ref x)]
  refine wpAny_bind (wpAny_pure (show wpAny _ _ (call (.builtin "BaseException.__getattribute__") [.ref x, .str "__class__" st]) _ _ _ from ?_))
  refine wpAny_call (codeAny_call_builtin PySem.F.excAttr_ValueError.ga.plain PySem.F.entry_bexc_ga ?_)
  refine @PySem.W.check_slot (model prog w) _ _ ⟨hp, sg, sd, st + 1, so⟩ "BaseException.__getattribute__" "BaseException" "__getattribute__" (.ref x) [.str "__class__" st] [] _ (by decide +kernel) (by decide +kernel) isx (PySem.F.args_bexc_ga (.ref x) (.str "__class__" st)) ?_
  unfold Builtin.«object.__getattribute__»
  refine wpAny_bind (wpAny_of_eq (a := ((Value.ref x : Value), [Value.str "__class__" st])) (by first | rfl | (simp only [slotArgs]; rfl)) (wpAny_bind (wpAny_pure (wpAny_bind (ty.at (wpAny_bind (l3.at ?_)))))))
  show wpAny _ _ (holding [Value.builtin "object.__class__"] (call (.builtin "getset_descriptor.__get__") [.builtin "object.__class__", .ref x, .ref D]) >>= ret) _ _ _
  refine wpAny_bind (wpAny_holding (wpAny_call (PySem.W.class_get (s := ⟨hp, sg, sd, st + 1, so⟩) (ox := ox) (od := od) X J C.hm (wpAny_pure ?_))))
  show wpAny _ _ (handedOut (.ref D)) _ _ _
  rw [PySem.W.handedOut_of (v := .ref D) rfl]
  first
    | exact wpAny_pure (wpAny_pure q)
    | exact wpAny_pure q
    | exact wpAny_pure (wpAny_bind (wpAny_pure (wpAny_pure q)))
theorem kit_exd (C : ExcC K D) : PySem.W.KitX K (.ref x) (.ref D) (fun h => ∃ ox od, PySem.W.InstAt h x ox D od) := by
  obtain ⟨cdD, hcD, _⟩ := PySem.W.any_some C.hd
  have at_ : ∃ (o : Obj) (cd : ClassData), K.lookup D = some o ∧ o.data = .cls cd := by
    unfold PySem.W.clsIn at hcD
    split at hcD
    · rename_i ho
      exact ⟨_, _, ho, rfl⟩
    · cases hcD
  obtain ⟨o, cd, ho, hd⟩ := at_
  refine ⟨fun _ _ _ ⟨_, _, J⟩ => J.type, fun _ _ X _ => ?_, fun h tp dd its n sl X e => ?_, fun X ⟨_, _, J⟩ q => exc_class C X J q⟩
  · intro A' Q' E' s' k q
    unfold isType loadHead
    obtain ⟨oc, od, oda, osl⟩ := o
    cases hd
    exact wpAny_bind (wpAny_loadPart (k _ _ (X _ _ ho)) (wpAny_pure q))
  · refine Bool.eq_false_iff.mpr fun z => ?_
    obtain rfl := Value.ref.inj (beq_iff_eq.mp z)
    have z := (X _ _ ho).symm.trans e
    cases z
    cases hd
end
/-- isinstance(e, c), e the exception that the suite holds, of whatever fields -/
def rIsX (K : PySem.W.Frag) (a D : Addr) (cls : Value) (d : Option Addr) : List V → Hp → VK → Prop := fun xs H Q => ∃ (c : V) (cv : Value) (b : Bool) (dd : Addr) (fs : List (Str × V)), xs = [.ref a, c] ∧ (∀ u, RelV c u → u = cv) ∧ PySem.W.kitOne K (.ref D) cv = some b ∧ cls = .ref D ∧ d = some dd ∧ H dd = some (.xd fs) ∧ Q (.bl b) H
theorem call_isX {X : Cx} {a D : Addr} {oe : Obj} {d : Option Addr} {pn : List (Addr × Obj)} {cls : Value} (C : ExcC X.K D) (hz : Zc cls d oe) (hf : ∃ vs, oe.data = .fields vs) :
    CallR (X.suite a ((a, oe) :: pn)) (.builtin "isinstance") (rIsX X.K a D cls d) := by
  intro pins s σ H xs us Q I r h
  obtain ⟨c, cv, b, dd, fs, rfl, hcv, e, rfl, rfl, hdd, q⟩ := h
  cases r with
  | cons rx rr =>
    cases rr with
    | cons rt rr =>
      cases rr
      cases rx
      obtain rfl := hcv _ rt
      obtain ⟨hget, _⟩ := I.pin (a, oe) (List.mem_append_left _ List.mem_cons_self)
      obtain ⟨vs, hv⟩ := hf
      obtain ⟨mA, hns, _⟩ : ObjOk X.prog X.w H s.heap dd (.xd fs) := I.hok dd _ hdd
      obtain ⟨od, ho, _⟩ := lookIn_ns hns
      have J : PySem.W.InstAt s.heap a oe D (some od) := ⟨hget, hz.1, by unfold PySem.W.notCls; rw [hv] <;> rfl, by rw [hz.2]; exact ho⟩
      exact PySem.W.kia_one (kit_exd C) I.kIn ⟨_, _, J⟩ e (fun z => nomatch z) fun tk => ⟨.bl b, H, I.kept (t' := tk) fun _ _ z => z, rfl, q⟩
end KpR

namespace KpR
open PySem PySem.Spec PyProof.Rows L2
section
variable {prog : Program} {w : World} {A : Around} {E : Value → Shared → Prop} {s : Shared} {K : PySem.W.Frag} {x y C C' f : Addr} {ox oy : Obj} {od : Option Obj}
theorem rc_neX {Q : Value → Shared → Prop} (X : K.In s.heap) (I : PySem.W.InstAt s.heap x ox C od) (c : NeK K C f) (hy : s.heap.get? y = some oy) (cy : oy.cls = .ref C') (nf : PySem.W.notFirst K C (.ref C') = true) (hu : A.units + 1 < cLine)
    (h : wpAny (model prog w) A.in1 (call (.ref f) [.ref x, .ref y]) (fun v s1 => ∃ b, v = .bool b ∧ Q (.bool (!b)) s1) E s) : wpAny (model prog w) A (richCompare .NotEq (.ref x) (.ref y)) Q E s := by
  by_cases ne : C' = C
  · exact rc_neK X I c hy (by rw [cy, ne]) hu h
  have hsub : PySem.W.subIn K (.ref C') (.ref C) = some false := by
    unfold PySem.W.notFirst at nf
    rcases Bool.or_eq_true_iff.mp nf with k | k
    · exact absurd (Value.ref.inj (eq_of_beq k)) ne
    · exact eq_of_beq k
  have hu0 : A.units < cLine := Nat.lt_of_succ_lt hu
  have run : wpAny (model prog w) A (callSpecialIfBound? (.ref x) "__ne__" [.ref y]) (fun r s1 => ∃ b, r = some (.bool b) ∧ Q (.bool b) s1) E s := by
    simp only [callSpecialIfBound?, bindSpecialIfBound?]
    refine wpAny_holding (wpAny_bind (wpAny_bind (wpAny_bind (I.type.here ((PySem.W.looks_findIn X c.hn).here ?_)))))
    refine wpAny_bind (wpAny_askSetting (wpAny_ite ?_))
    have fin : wpAny (model prog w) A (call (.builtin "object.__ne__") ([.ref x] ++ [.ref y]) >>= fun v => pure (some v)) (fun r s1 => ∃ b, r = some (.bool b) ∧ Q (.bool b) s1) E s :=
      wpAny_bind (wpAny_mono (call_objNe (Q := fun v s1 => ∃ b, v = .bool b ∧ Q (.bool b) s1) X I c hu (wpAny_mono h (fun v s1 ⟨b, e, q⟩ => ⟨b, e, _, rfl, q⟩) fun _ _ e => e)) (fun v s1 ⟨b, e, q⟩ => wpAny_pure ⟨b, congrArg some e, q⟩) fun _ _ e => e)
    split
    · exact wpAny_bind (wpAny_of_eq (F.cmp_object.ne.bind _) (wpAny_pure (by exact fin)))
    · exact wpAny_tryCatch (wpAny_bind (wpAny_of_eq (F.cmp_object.ne.bind _) (wpAny_pure (by exact fin))))
  have one : wpAny (model prog w) A (tryCompare (.ref x) "__ne__" (.ref y)) (fun r s1 => ∃ b, r = some (.bool b) ∧ Q (.bool b) s1) E s := by
    unfold tryCompare
    refine wpAny_bind (wpAny_mono run (fun r s1 z => ?_) fun _ _ e => e)
    obtain ⟨b, rfl, q⟩ := z
    exact wpAny_pure ⟨b, rfl, q⟩
  unfold richCompare
  simp only [oneThing_ref]
  refine wpAny_holding (wpAny_bind (wpAny_cRoomFor hu0 ?_))
  rw [cmpInfo_NotEq]
  dsimp only
  refine wpAny_bind (I.type.here (wpAny_bind (wpAny_typeOf_ref hy ?_)))
  have nb : (Value.ref C != Value.ref C') = true := by
    rw [bne_iff_ne]
    exact fun z => ne (Value.ref.inj z).symm
  rw [cy, nb]
  simp only [if_true]
  refine wpAny_bind ((PySem.W.looks_subIn X hsub).here ?_)
  simp only [Bool.false_eq_true, if_false]
  refine wpAny_bind (wpAny_mono one (fun r s1 z => ?_) fun _ _ e => e)
  obtain ⟨b, rfl, q⟩ := z
  exact wpAny_pure q
end
section
variable {X : Cx} {CX : CXT} {n : Nat} {C f : Addr} {fd : FuncData} {ps : List Str} {R : Addr → V → Bool → Hp → Prop} {E : XK}
/-- x != y of two instances, the second of no class below the first one's -/
def rNeX (K : PySem.W.Frag) (C : Addr) (R : Addr → V → Bool → Hp → Prop) : R2 := fun x y H Q => ∃ b, DInsB K C R x y b H ∧ ∀ H', Ext H H' → Q (.bl (!b)) H'
theorem op_neX (G : FnOk X.prog X.w X.K X.mg X.base CX n f fd ps (spEqB R)) (hc : NeK X.K C f) (hb : Binds X.K fd ps []) (hx : Passes CX X E) (hr : Room (n + 1) X.A) : OpR X (compareOp .NotEq) (rNeX X.K C R) := by
  intro pins s σ H x y v u Q I rx ry hq
  obtain ⟨b, ⟨a, c, C', dx, dy, fs, gs, rfl, rfl, ha, hc1, nf, hR⟩, q⟩ := hq
  cases rx
  cases ry
  obtain ⟨mA, J, _⟩ := ins_get I.hok ha
  obtain ⟨mC, J1, _⟩ := ins_get I.hok hc1
  obtain ⟨od, J, _⟩ := J.look
  obtain ⟨od1, J1, _⟩ := J1.look
  have r1 : Room n X.A.in1 := hr.in1
  have go := own_runB (B := X.A.in1) (y := .ref c) (v := .ref c) G hb hx ⟨r1, rfl⟩ I rfl hR
  show wpAny (model X.prog X.w) X.A (richCompare .NotEq (.ref a) (.ref c)) (EP X pins σ Q) X.xe s
  refine rc_neX I.kIn J hc J1.at_ J1.cls nf (hu_of hr) (wpAny_mono go (fun r s1 z => ?_) fun _ _ e => e)
  cases r with
  | notImplemented => exact False.elim z
  | bool b' =>
    obtain ⟨e, H1, I1, ex⟩ := z
    cases e
    exact ⟨_, rfl, .bl _, H1, I1, rfl, q H1 ex⟩
  | _ => cases z.1
/-- x == y, two lists equal pair by pair -/
def DAll (D : EqvB) : Eqv := fun x y H => ∀ H', Ext H H' → D x y true H'
theorem mon_all (D : EqvB) : Mon (DAll D) := fun _ _ _ _ e d H' e' => d H' (e.trans e')
theorem eqG_all {D : EqvB} (h : EqB X n D) : EqG X n (DAll D) := fun B pins s σ H x y u v sb I rx ry d => h B pins s σ H x y true u v sb I rx ry (d H Ext.rfl')
/-- x != y, two lists of just the same objects -/
def rNeSame (K : PySem.W.Frag) : R2 := fun x y H Q => ∃ a c xs, x = .ref a ∧ y = .ref c ∧ H a = some (.lst xs) ∧ H c = some (.lst xs) ∧ (∀ z ∈ xs, ∃ p, z = V.ref p) ∧ Q (.bl false) H
theorem refs_same : ∀ {xs : List V} {us vs : List Value}, (∀ z ∈ xs, ∃ p, z = V.ref p) → Vals xs us → Vals xs vs → us = vs
  | [], _, _, _, .nil, .nil => rfl
  | x :: xs, _, _, h, .cons r1 k1, .cons r2 k2 => by
    obtain ⟨p, rfl⟩ := h x (List.mem_cons_self ..)
    cases r1
    cases r2
    rw [refs_same (fun z hz => h z (List.mem_cons_of_mem _ hz)) k1 k2]
theorem op_neSame (hu : X.A.units < cLine) : OpR X (compareOp .NotEq) (rNeSame X.K) := by
  intro pins s σ H x y v u Q I rx ry hq
  obtain ⟨a, c, xs, rfl, rfl, ha, hc, hr, q⟩ := hq
  cases rx
  cases ry
  obtain ⟨z, its, k, r, e⟩ := I.hok a _ ha
  obtain ⟨z2, its2, k2, r2, e2⟩ := I.hok c _ hc
  obtain rfl := refs_same hr r r2
  show wpAny (model X.prog X.w) X.A (richCompare .NotEq (.ref a) (.ref c)) (EP X pins σ Q) X.xe s
  refine wpAny_richCompare_same_room (op := .NotEq) ⟨_, e, rfl⟩ ⟨_, e2, rfl⟩ F.slot_list_ne (GQ.call_here F.slot_list_ne ⟨_, e, rfl⟩ F.entry_list_ne (F.args_list_ne_2 _ _) ?_) hu
  refine SeqAt.list_neAt a c its.toArray its.toArray k k2 none none #[] #[] rfl (fun _ => true) X.prog X.w X.A (wants (fun v s' => v ≠ .notImplemented ∧ EP X pins σ Q v s') X.xe) s ⟨e, e2, fun j h1 h2 => SeqAt.EqAt.same _, ?_⟩
  have al : (List.range its.toArray.size).all (fun _ => true) = true := by simp
  rw [al]
  exact ⟨(fun z => nomatch z), .bl false, H, I, rfl, q⟩
end
section
variable {prog : Program} {w : World} {A : Around} {E : Value → Shared → Prop} {s : Shared}
/-- a tuple's items, taken over into a list of their own -/
theorem collect_tup {l : Addr} {o : Obj} {n : Nat} {vs : List Value} {Q : List Value → Shared → Prop} (ho : s.heap.get? l = some o) (hc : o.cls = .type "tuple") (hd : o.data = .seq vs.toArray n)
    (h : Q vs { s with heap := (s.heap.push (seqObj "list" #[] 0)).update s.heap.objs.size (Obj.mapSeq (· ++ vs.toArray)) }) (hsz : vs.length ≤ sizeLine) : wpAny (model prog w) A (collect (.ref l)) Q E s := by
  have new : (s.heap.push (seqObj "list" #[] 0)).get? s.heap.objs.size = some (seqObj "list" #[] 0) := Heap.get?_push_size _ rfl
  have old : (s.heap.push (seqObj "list" #[] 0)).get? l = some o := Heap.get?_push_of_some _ ho
  unfold collect
  refine wpAny_bind (wpAny_runValue (codeAny_builtin entry_proto_collect' (show wpAny _ _ (do again (.builtin "list.__iadd__" ⟨[← newList [], .ref l], []⟩)) _ _ s from wpAny_bind (wpAny_newList (wpAny_pure ⟨Code.quiet_builtin _ (by decide +kernel), codeAny_builtin entry_list_iadd' ?_⟩)))))
  show wpAny _ _ (Builtin.List.listExtendWith (.ref s.heap.objs.size) (.ref l) (.ref s.heap.objs.size)) _ _ { s with heap := s.heap.push (seqObj "list" #[] 0) }
  unfold Builtin.List.listExtendWith
  have tt : (Value.type "tuple" == Value.type "tuple") = true := rfl
  refine wpAny_bind (wpAny_typeOf (T := "tuple") ⟨o, old, hc⟩ ?_)
  rw [if_pos (by rw [tt]; simp)]
  refine wpAny_bind (listItems_at old hd (wpAny_bind (listItems_at (xs := #[]) (n := 0) new rfl ?_)))
  rw [if_neg (by simp)]
  refine wpAny_bind (listUpdate_at (xs := #[]) (n := 0) new rfl (wpAny_pure ?_) (Nat.zero_le _) (by show (#[] ++ vs.toArray).size ≤ sizeLine + 1; simp only [Array.size_append, List.size_toArray, List.length_nil]; omega))
  refine (show wpAny (model prog w) A (load s.heap.objs.size >>= fun o => match o.data with | .seq xs _ => pure xs.toList | _ => unsupported "internal:collect") Q E _ from wpAny_bind (wpAny_load (get?_update_seq new _) ?_))
  show wpAny _ _ (pure ((#[] : Array Value) ++ vs.toArray).toList) Q E _
  rw [show ((#[] : Array Value) ++ vs.toArray).toList = vs by simp]
  exact wpAny_pure h
theorem sorted_tup {l : Addr} {o : Obj} {n : Nat} {vs : List Value} {ns : List Int} {Q : Value → Shared → Prop} (ho : s.heap.get? l = some o) (hc : o.cls = .type "tuple") (hd : o.data = .seq vs.toArray n) (hI : IntsAre vs ns) (h64 : vs.length < 64)
    (h : ∀ (out : Array Value) (ns' : List Int), IntsAre out.toList ns' → ns'.Perm ns → ns'.Pairwise (· ≤ ·) → Q (.ref (s.heap.objs.size + 1)) { s with heap := sortedAll s.heap vs out }) :
    wpAny (model prog w) A (call (.builtin "sorted") [.ref l]) Q E s := by
  refine Calls.call_function_entry kind_sorted plain_sorted entry_sorted (args_sorted1 _) ?_
  unfold Builtin.«sorted»
  refine wpAny_bind (m := checkCount "sorted" 1 1 _) (wpAny_pure (wpAny_bind (collect_tup ho hc hd (wpAny_bind (wpAny_newList ?_)) (small64 h64))))
  have sz : ((s.heap.push (seqObj "list" #[] 0)).update s.heap.objs.size (Obj.mapSeq (· ++ vs.toArray))).objs.size = s.heap.objs.size + 1 := by rw [Heap.size_update, size_push']
  have at2 : (((s.heap.push (seqObj "list" #[] 0)).update s.heap.objs.size (Obj.mapSeq (· ++ vs.toArray))).push (seqObj "list" vs.toArray 0)).get? (s.heap.objs.size + 1) = some (seqObj "list" vs.toArray 0) := sz ▸ Heap.get?_push_size _ rfl
  show wpAny _ _ _ _ _ { s with heap := ((s.heap.push (seqObj "list" #[] 0)).update s.heap.objs.size (Obj.mapSeq (· ++ vs.toArray))).push (seqObj "list" vs.toArray 0) }
  rw [sz]
  exact wpAny_bind (wpAny_holding (wpAny_call_entry slot_list_sort ⟨_, at2, rfl⟩ entry_list_sort (list_sort_tree at2 hI h64 fun out ns' a1 a2 a3 => ⟨_, rfl, wpAny_pure ⟨_, rfl, h out ns' a1 a2 a3⟩⟩) (args_list_sort _)))
end
section
variable {X : Cx}
/-- sorted(t), t a tuple or a list of ints -/
def rSrt (K : PySem.W.Frag) : List V → Hp → VK → Prop := fun vs H Q => ∃ (a : Addr) (ns : List Int), vs = [V.ref a] ∧ (SqL K H a (ns.map V.int) ∨ SqT K H a (ns.map V.int)) ∧ ns.length < 64 ∧
  ∀ (ns' : List Int) (p : Addr), ns'.Perm ns → ns'.Pairwise (· ≤ ·) → H p = none → Q (.ref p) (upd H p (.lst (ns'.map V.int)))
theorem cr_srt : CallR X (.builtin "sorted") (rSrt X.K) := by
  intro pins s σ H vs us Q I r h
  obtain ⟨a, ns, rfl, hs, h64, q⟩ := h
  rcases hs with hs | hs
  · exact cr_sorted pins s σ H _ us Q I r ⟨a, ns, rfl, hs, h64, q⟩
  obtain ⟨its, rv, ⟨o, ho, hc, n, hd⟩, _⟩ := I.tuple hs
  rw [Vals.ref1 r]
  have hi := rv.ints
  refine sorted_tup ho hc hd hi (by rw [hi.length]; exact h64) fun out ns' h1 h2 h3 => ?_
  obtain ⟨ep, he'⟩ := PyProof.Rows.sortedAll_at s.heap its out
  have hlen : (ns'.map V.int).length ≤ sizeLine := by rw [List.length_map, h2.length_eq]; exact small64 h64
  exact ⟨.ref _, upd H (s.heap.objs.size + 1) (.lst (ns'.map V.int)), I.laid (t' := s.toks) (fun _ _ => PyProof.Rows.sortedAll_old) (Nat.le_succ _) ⟨hlen, out.toList, ep, vals_of_ints h1, he'⟩, rfl, q ns' _ h2 h3 (I.hok.fresh (Nat.le_succ _))⟩
end
end KpR

namespace KpR
open PySem PySem.Spec PyProof.Rows L2
theorem lc_enumT {K : PySem.W.Frag} {a : Addr} {xs : List V} {g : TG} {tt : TT} {te : TE} {vs : List Nat} {σ : L2.St} {H1 : Hp} {D : Addr} {Qd : Hp → Prop} (Pv : Nat → Hp → Prop) (h0 : Pv 0 (upd H1 D (.lst []))) (hl : ∀ i H, i ≤ xs.length → Pv i H → SqT K H a xs)
    (hs : ∀ i x T H, xs[i]? = some x → Pv i H → H T = none → g (.ref T) (wipe σ vs) (upd H T (.tup [.int (i : Nat), x])) fun σ2 H2 => wipe σ2 vs = wipe σ vs ∧ tt σ2 H2 fun b H3 =>
      if b = true then te σ2 H3 fun y H4 => ∃ acc, H4 D = some (.lst acc) ∧ acc.length < sizeLine ∧ Pv (i + 1) (upd H4 D (.lst (acc ++ [y]))) else Pv (i + 1) H3) (hd : ∀ H, Pv xs.length H → Qd H) :
    ∃ W : Nat → Nat → Hp → Prop, (∃ m, W 0 m (upd H1 D (.lst []))) ∧ ∀ i m H, W i m H →
      ((IteT K a).stop i H ∧ Qd H) ∨ ((IteT K a).go i H ∧ ∃ Nx : Hp → Prop, (∀ H', Nx H' → ∃ m', m' < m ∧ W (i + 1) m' H') ∧ ∀ x H', (IteT K a).yld i H x H' → g x (wipe σ vs) H' fun σ2 H2 => wipe σ2 vs = wipe σ vs ∧ tt σ2 H2 fun b H3 =>
        if b = true then te σ2 H3 fun y H4 => ∃ acc, H4 D = some (.lst acc) ∧ acc.length < sizeLine ∧ Nx (upd H4 D (.lst (acc ++ [y]))) else Nx H3) := by
  refine ⟨fun i m H => m = xs.length - i ∧ i ≤ xs.length ∧ Pv i H, ⟨xs.length, by simp, Nat.zero_le _, h0⟩, ?_⟩
  rintro i m H ⟨rfl, hi, p⟩
  have q := hl i H hi p
  by_cases hlt : i < xs.length
  · refine .inr ⟨⟨xs, xs[i], q, by simp [hlt]⟩, Pv (i + 1), fun H' p' => ⟨xs.length - (i + 1), by omega, rfl, hlt, p'⟩, ?_⟩
    rintro x H' ⟨T, y, rfl, hT, rfl, hy⟩
    exact hs i y T H (hy xs q) p hT
  · have e : i = xs.length := by omega
    subst e
    exact .inl ⟨⟨xs, q, rfl⟩, hd H p⟩
theorem lc_enumL {K : PySem.W.Frag} {a : Addr} {xs : List V} {g : TG} {tt : TT} {te : TE} {vs : List Nat} {σ : L2.St} {H1 : Hp} {D : Addr} {Qd : Hp → Prop} (Pv : Nat → Hp → Prop) (h0 : Pv 0 (upd H1 D (.lst []))) (hl : ∀ i H, i ≤ xs.length → Pv i H → SqL K H a xs)
    (hs : ∀ i x T H, xs[i]? = some x → Pv i H → H T = none → g (.ref T) (wipe σ vs) (upd H T (.tup [.int (i : Nat), x])) fun σ2 H2 => wipe σ2 vs = wipe σ vs ∧ tt σ2 H2 fun b H3 =>
      if b = true then te σ2 H3 fun y H4 => ∃ acc, H4 D = some (.lst acc) ∧ acc.length < sizeLine ∧ Pv (i + 1) (upd H4 D (.lst (acc ++ [y]))) else Pv (i + 1) H3) (hd : ∀ H, Pv xs.length H → Qd H) :
    ∃ W : Nat → Nat → Hp → Prop, (∃ m, W 0 m (upd H1 D (.lst []))) ∧ ∀ i m H, W i m H →
      ((Ite K a).stop i H ∧ Qd H) ∨ ((Ite K a).go i H ∧ ∃ Nx : Hp → Prop, (∀ H', Nx H' → ∃ m', m' < m ∧ W (i + 1) m' H') ∧ ∀ x H', (Ite K a).yld i H x H' → g x (wipe σ vs) H' fun σ2 H2 => wipe σ2 vs = wipe σ vs ∧ tt σ2 H2 fun b H3 =>
        if b = true then te σ2 H3 fun y H4 => ∃ acc, H4 D = some (.lst acc) ∧ acc.length < sizeLine ∧ Nx (upd H4 D (.lst (acc ++ [y]))) else Nx H3) := by
  refine ⟨fun i m H => m = xs.length - i ∧ i ≤ xs.length ∧ Pv i H, ⟨xs.length, by simp, Nat.zero_le _, h0⟩, ?_⟩
  rintro i m H ⟨rfl, hi, p⟩
  have q := hl i H hi p
  by_cases hlt : i < xs.length
  · refine .inr ⟨⟨xs, xs[i], q, by simp [hlt]⟩, Pv (i + 1), fun H' p' => ⟨xs.length - (i + 1), by omega, rfl, hlt, p'⟩, ?_⟩
    rintro x H' ⟨T, y, rfl, hT, rfl, hy⟩
    exact hs i y T H (hy xs q) p hT
  · have e : i = xs.length := by omega
    subst e
    exact .inl ⟨⟨xs, q, Nat.le_refl _⟩, hd H p⟩
theorem A2at {α : Type} {R : V → α → Prop} : ∀ {vs : List V} {ds : List α} {i : Nat} {d : α}, A2 R vs ds → ds[i]? = some d → ∃ v, atI vs (i : Int) = some v ∧ vs[i]? = some v ∧ R v d := by
  intro vs ds i d h e
  have lt : i < ds.length := (List.getElem?_eq_some_iff.mp e).1
  have lt2 : i < vs.length := by rw [h.len]; exact lt
  obtain ⟨d', e', r⟩ := h.get (List.getElem?_eq_getElem lt2)
  rw [e] at e'
  cases e'
  exact ⟨_, atI_nat (List.getElem?_eq_getElem lt2), List.getElem?_eq_getElem lt2, r⟩
theorem A2set {α : Type} {R : V → α → Prop} : ∀ {vs : List V} {ds : List α} {i : Nat} {v : V} {d : α}, A2 R vs ds → R v d → A2 R (vs.set i v) (ds.set i d)
  | [], [], _, _, _, _, _ => trivial
  | _ :: _, _ :: _, 0, _, _, h, r => ⟨r, h.2⟩
  | _ :: _, _ :: _, i + 1, _, _, h, r => ⟨h.1, A2set h.2 r⟩
/-- t + u of two tuples of the heap: one that holds both, perhaps one of them itself -/
def rCatS : R2 := fun x y H Q => ∃ (a b : Addr) (xs ys : List V), x = .ref a ∧ y = .ref b ∧ H a = some (.tup xs) ∧ H b = some (.tup ys) ∧ xs.length + ys.length ≤ sizeLine ∧
  ∀ (p : Addr) (H' : Hp), Same H H' → H' p = some (.tup (xs ++ ys)) → Q (.ref p) H'
theorem op_catS {X : Cx} : OpR X (binaryOp .Add) rCatS := by
  intro pins s σ H x y v u Q I rx ry h
  obtain ⟨a, b, xs, ys, rfl, rfl, ha, hb, hz, q⟩ := h
  refine op_catA pins s σ H _ _ v u Q I rx ry ⟨a, b, xs, ys, rfl, rfl, SqT.of ha, SqT.of hb, hz, fun e => ?_, fun _ e => ?_, fun _ _ p hp => ?_⟩
  · subst e
    exact q b H (Same.refl _) hb
  · subst e
    exact q a H (Same.refl _) (by rw [List.append_nil]; exact ha)
  · exact q p _ (same_new hp) upd_same
/-- xs != [] and xs == [], whatever the list holds -/
def rNeNil : R2 := fun x y H Q => ∃ (a c : Addr) (xs : List V), x = .ref a ∧ y = .ref c ∧ H a = some (.lst xs) ∧ H c = some (.lst []) ∧ Q (.bl (!xs.isEmpty)) H
def rEqNil : R2 := fun x y H Q => ∃ (a c : Addr) (xs : List V), x = .ref a ∧ y = .ref c ∧ H a = some (.lst xs) ∧ H c = some (.lst []) ∧ Q (.bl xs.isEmpty) H
theorem op_neNil {X : Cx} (hu : X.A.units < cLine) : OpR X (compareOp .NotEq) rNeNil := by
  intro pins s σ H x y v u Q I rx ry hq
  obtain ⟨a, c, xs, rfl, rfl, ha, hc, q⟩ := hq
  cases rx
  cases ry
  obtain ⟨z, its, k, r, e⟩ := I.hok a _ ha
  obtain ⟨z2, its2, k2, r2, e2⟩ := I.hok c _ hc
  cases r2
  have l1 : s.heap.IsList a its.toArray := ⟨_, e, rfl, _, rfl⟩
  have l2 : s.heap.IsList c ([] : List Value).toArray := ⟨_, e2, rfl, _, rfl⟩
  cases r with
  | nil => exact PySem.SeqAt.RcNeAt.lists l1 l2 rfl hu (e := fun _ => true) (fun j h1 _ => absurd h1 (Nat.not_lt_zero _)) X.prog X.w _ _ ⟨.bl false, H, I, rfl, q⟩
  | cons r0 rr => exact PySem.SeqAt.RcNeAt.lists_lengths l1 l2 rfl hu X.prog X.w _ _ ⟨.bl true, H, I, rfl, q⟩
theorem op_eqNil {X : Cx} (hu : X.A.units < cLine) : OpR X (compareOp .Eq) rEqNil := by
  intro pins s σ H x y v u Q I rx ry hq
  obtain ⟨a, c, xs, rfl, rfl, ha, hc, q⟩ := hq
  cases rx
  cases ry
  obtain ⟨z, its, k, r, e⟩ := I.hok a _ ha
  obtain ⟨z2, its2, k2, r2, e2⟩ := I.hok c _ hc
  cases r2
  have l1 : s.heap.IsList a its.toArray := ⟨_, e, rfl, _, rfl⟩
  have l2 : s.heap.IsList c ([] : List Value).toArray := ⟨_, e2, rfl, _, rfl⟩
  cases r with
  | nil => exact PySem.SeqAt.RcAt.lists l1 l2 rfl hu (e := fun _ => true) (fun j h1 _ => absurd h1 (Nat.not_lt_zero _)) X.prog X.w _ _ ⟨.bl true, H, I, rfl, q⟩
  | cons r0 rr => exact PySem.SeqAt.RcAt.lists_lengths l1 l2 rfl hu X.prog X.w _ _ ⟨.bl false, H, I, rfl, q⟩
/-- for a, b in d.items(): each entry in a new pair -/
theorem for_items {d : Addr} {o : Obj} {kvs : List (Key × V)} {g : TG} {tb : TS} {D : Ends} {σ : L2.St} {H : Hp} (Pv : Nat → L2.St → Hp → Prop) (h0 : Pv 0 σ H) (hl : ∀ i σ H, Pv i σ H → H d = some (.frz o (.dK kvs)))
    (hs : ∀ i k v T σ H, kvs[i]? = some (k, v) → Pv i σ H → H T = none → g (.ref T) σ (upd H T (.tup [kV k, v])) fun σ2 H2 => tb { D with nx := Pv (i + 1), ct := Pv (i + 1), bk := D.nx } σ2 H2) (hd : ∀ σ H, Pv kvs.length σ H → D.nx σ H) :
    ∃ W : Nat → Nat → L2.St → Hp → Prop, (∃ m, W 0 m σ H) ∧ ∀ i m σ H, W i m σ H →
      ((Iti d o kvs).stop i H ∧ D.nx σ H) ∨ ((Iti d o kvs).go i H ∧ ∃ N : L2.St → Hp → Prop, (∀ σ' H', N σ' H' → ∃ m', m' < m ∧ W (i + 1) m' σ' H') ∧ ∀ x H', (Iti d o kvs).yld i H x H' → g x σ H' fun σ2 H2 => tb { D with nx := N, ct := N, bk := D.nx } σ2 H2) := by
  refine ⟨fun i m σ H => m = kvs.length - i ∧ i ≤ kvs.length ∧ Pv i σ H, ⟨kvs.length, by simp, Nat.zero_le _, h0⟩, ?_⟩
  rintro i m σ1 H1 ⟨rfl, hi, p⟩
  have q := hl _ _ _ p
  rcases Nat.lt_or_eq_of_le hi with lt | e
  · refine .inr ⟨⟨q, lt⟩, Pv (i + 1), fun σ2 H2 q => ⟨kvs.length - (i + 1), by omega, rfl, lt, q⟩, ?_⟩
    rintro x H2 ⟨T, k, v, hk, rfl, hT, rfl⟩
    exact hs i k v T σ1 H1 hk p hT
  · subst e
    exact .inl ⟨⟨q, Nat.le_refl _⟩, hd _ _ p⟩
end KpR

/-! Kp: a written dict of one pair whose key is a tuple. -/
namespace KpR
open PySem PySem.Spec PyProof.Rows L2
/-- {k: v}, k a tuple of ints and texts; the new dict stands empty while the pair is made -/
def tDispT (tk tv : TE) : TE := fun σ H Q => ∀ p, H p = none → tk σ (upd H p (.dT [])) fun x H1 => tv σ H1 fun v H2 => H2 p = some (.dT []) ∧ ∃ (b : Addr) (k : List L2.Key), x = .ref b ∧ H2 b = some (.tup (k.map kV)) ∧ Q (.ref p) (upd H2 p (.dT [(k, v)]))
def oneP (Q : VK) (p : Addr) : List (V × V) → Hp → Prop
  | [(x, y)], H2 => H2 p = some (.dT []) ∧ ∃ (b : Addr) (kk : List L2.Key), x = .ref b ∧ H2 b = some (.tup (kk.map kV)) ∧ Q (.ref p) (upd H2 p (.dT [(kk, y)]))
  | _, _ => False
theorem oneP_of {tk tv : TE} {σ : L2.St} {H : Hp} {Q : VK} {p : Addr} (h : tk σ H fun x H1 => tv σ H1 fun v H2 => H2 p = some (.dT []) ∧ ∃ (b : Addr) (k : List L2.Key), x = .ref b ∧ H2 b = some (.tup (k.map kV)) ∧ Q (.ref p) (upd H2 p (.dT [(k, v)]))) :
    tPairs [(tk, tv)] σ H (oneP Q p) := h
theorem pe_dispT {X : Cx} {pos : Pos} {k v : Expr} {tk tv : TE} (hu : X.A.units + 1 < cLine) (hk : PE X k tk) (hv : PE X v tv) : PE X (.Dict [some k] [v] pos) (tDispT tk tv) := by
  refine ⟨fun pins s σ H Q I q => ?_⟩
  have hn := I.hok.fresh (Nat.le_refl s.heap.objs.size)
  have I1 := I.laid (a := s.heap.objs.size) (o := .dT []) (h' := s.heap.push { cls := .type "dict", data := .dict #[] }) (t' := s.toks) (fun _ _ q => Heap.get?_push_of_some _ q) (Nat.le_refl _) (dt_empty s.heap I.big)
  have hp := pps_cons (pos := pos) hk hv pps_nil
  have ln : (pairTrees [some k] [v] X.env pos).length = 1 := pairTrees_length [some k] [v] X.env pos rfl rfl
  have ne : pairTrees [some k] [v] X.env pos ≠ [] := fun z => by
    rw [z] at ln
    cases ln
  have room : (tupleKind (mixKind X.prog X.w)).room X.A := by
    show X.A.units < cLine
    omega
  rw [arm_eval_Dict, zip_pairTrees [some k] [v] X.env pos rfl rfl, dictDisplay_pairs _ ne (by omega)]
  refine wpAny_bind (wpAny_standAt (wpAny_bind (wpAny_subDictH (knd := tupleKind (mixKind X.prog X.w)) room (by omega) ?_)))
  refine thn (hp.run pins _ σ _ (oneP Q s.heap.objs.size) I1 (oneP_of (q _ hn))) ?_
  rintro ws s2 ⟨ps, H2, I2, rel, g⟩
  match ps, g, rel with
  | [(x, y)], ⟨e, b, kk, ex, eb, q2⟩, rel =>
    subst ex
    match ws, rel with
    | [(u1, u2)], .cons ⟨ra, rb⟩ .nil =>
      cases (show u1 = Value.ref b from ra)
      obtain ⟨z, hd, xs, r0, dd⟩ := dt_of I2.hok e
      cases r0
      refine ⟨[(kk, b, u2)], ⟨rfl, rfl, key_of I2.hok eb, trivial⟩, dd, fun h' tk dd' hs => wpAny_pure ⟨.ref s.heap.objs.size, _, ?_, rfl, q2⟩⟩
      obtain ⟨q, es, ep, hq, h2, h3, h4, _, h5⟩ := dd'
      refine d_write I2 (by rw [e]; exact True.intro) hs ⟨q, hq⟩ ⟨by show 1 ≤ sizeLine; decide, hd, [(kk, b, u2)], .cons ⟨rfl, ?_, rb⟩ .nil, q, es, ep, hq, h2, h3, h4, h5⟩
      rw [upd_ne (ne_of eb e (fun z => nomatch z))]
      exact eb
end KpR

/-! Kp: sum of a tuple of ints. -/
namespace KpR
open PySem PySem.Spec PyProof.Rows L2
section
variable {prog : Program} {w : World} {A : Around} {E : Value → Shared → Prop} {s : Shared} {l : Addr} {xs : Array (Int × Tok)}
theorem sum_tupG {Q : Value → Shared → Prop} (hh : A.handled = none) (hl : s.heap.IsTuple l (intItems xs))
    (h : ∀ h' tk t', (∀ b o, s.heap.get? b = some o → h'.get? b = some o) → Q (.int (preSum (numAt xs) xs.size) t') { s with heap := h', toks := tk }) :
    wpAny (model prog w) A (call (.builtin "sum") [.ref l]) Q E s := by
  have lt : l < s.heap.objs.size := by
    obtain ⟨o, e, _⟩ := hl
    exact Heap.lt_size e
  refine call_sum_walkG (wpAny_pyIter_tuple hl ?_)
  refine ⟨_, _, [s.heap.objs.size], _, _, _, numAt xs, rfl, Walks.tuple (A := A.in1) hh _ l (Nat.ne_of_lt lt) (intItems xs), ⟨⟨_, Heap.get?_push_size _ rfl, rfl, rfl⟩, hl.push _⟩, fun b hb => ?_, (fun _ _ => intItems_at), fun h' tk t' hk => ?_⟩
  · show b < (s.heap.push _).objs.size
    rw [Heap.size_push]
    rcases List.mem_cons.mp hb with rfl | hb
    · exact Nat.lt_succ_self _
    · rcases List.mem_cons.mp hb with rfl | hb
      · exact Nat.lt_succ_of_lt lt
      · cases hb
  · have := h h' tk t' fun b o e => by
      refine hk b o (fun hm => ?_) (Heap.get?_push_of_some _ e)
      rcases List.mem_cons.mp hm with e1 | hm
      · exact absurd (e1 ▸ Heap.lt_size e) (Nat.lt_irrefl _)
      · cases hm
    simpa [intItems] using this
end
/-- sum(t) of a tuple of ints -/
def rSumT (K : PySem.W.Frag) : List V → Hp → VK → Prop := fun vs H Q => ∃ (a : Addr) (ns : List Int), vs = [V.ref a] ∧ SqT K H a (ns.map V.int) ∧ Q (.int ns.sum) H
theorem cr_sumT {X : Cx} (hc : X.calm = true) : CallR X (.builtin "sum") (rSumT X.K) := by
  intro pins s σ H vs us Q I r h
  obtain ⟨a, ns, rfl, hs, q⟩ := h
  obtain ⟨its, rv, hl, _⟩ := I.tuple hs
  rw [Vals.ref1 r]
  have hi := rv.ints
  obtain ⟨xs, e⟩ := hi.allInts.items
  have hn : numsOf (intItems xs).toList = ns := by rw [← e]; exact hi.numsOf
  rw [nums_intItems] at hn
  rw [e] at hl
  refine sum_tupG (I.ok.hd hc) (let ⟨o, h1, h2, n, h3⟩ := hl; ⟨o, h1, h2, n, h3⟩) fun h' tk t' hk => ⟨.int _, H, I.kept hk, ⟨_, rfl⟩, ?_⟩
  rw [preSum_eq, List.take_of_length_le (by simp), hn]
  exact q
end KpR

/-! Kp: == and != of lists and tuples of ints, whatever the answer; dicts with int keys. -/
namespace KpR
open PySem PySem.Spec PyProof.Rows L2
def pdInts (l : List Int) : List PyData := l.map PyData.int
section
variable {K : PySem.W.Frag} {H : Hp}
theorem dpInts : ∀ l : List Int, DpAll K H (l.map V.int) (pdInts l)
  | [] => .nil
  | i :: l => .cons (.int i) (dpInts l)
theorem flatT (l : List Int) : Flat 1 (.tuple (pdInts l)) := Flat.tup fun _ _ => Flat.int
theorem flatL (l : List Int) : Flat 1 (.list (pdInts l)) := Flat.list fun _ _ => Flat.int
theorem eqvInts (l m : List Int) : PyData.eqvAll (pdInts l) (pdInts m) = decide (l = m) := eqv_map fun _ _ => eqv_int
theorem eqTI {a b : Addr} {l m : List Int} {Q : VK} (h1 : SqT K H a (l.map V.int)) (h2 : SqT K H b (m.map V.int)) (q : Q (.bl (decide (l = m))) H) : rEqD K (.ref a) (.ref b) H Q := by
  refine eqD (.tup h1 (dpInts l)) (.tup h2 (dpInts m)) ((flatT l).mono (by decide)) ((flatT m).mono (by decide)) ?_
  simp only [PyData.eqv, eqvInts]
  exact q
theorem neTI {a b : Addr} {l m : List Int} {Q : VK} (h1 : SqT K H a (l.map V.int)) (h2 : SqT K H b (m.map V.int)) (q : Q (.bl (!decide (l = m))) H) : rNeD K (.ref a) (.ref b) H Q := by
  refine neD (.tup h1 (dpInts l)) (.tup h2 (dpInts m)) ((flatT l).mono (by decide)) ((flatT m).mono (by decide)) ?_
  simp only [PyData.eqv, eqvInts]
  exact q
theorem eqLI {a b : Addr} {l m : List Int} {Q : VK} (h1 : SqL K H a (l.map V.int)) (h2 : SqL K H b (m.map V.int)) (q : Q (.bl (decide (l = m))) H) : rEqD K (.ref a) (.ref b) H Q := by
  refine eqD (.lst h1 (dpInts l)) (.lst h2 (dpInts m)) ((flatL l).mono (by decide)) ((flatL m).mono (by decide)) ?_
  simp only [PyData.eqv, eqvInts]
  exact q
theorem neLI {a b : Addr} {l m : List Int} {Q : VK} (h1 : SqL K H a (l.map V.int)) (h2 : SqL K H b (m.map V.int)) (q : Q (.bl (!decide (l = m))) H) : rNeD K (.ref a) (.ref b) H Q := by
  refine neD (.lst h1 (dpInts l)) (.lst h2 (dpInts m)) ((flatL l).mono (by decide)) ((flatL m).mono (by decide)) ?_
  simp only [PyData.eqv, eqvInts]
  exact q
end
theorem cut_takeT {xs : List V} {n : Nat} : cutV xs none (some (n : Int)) = xs.take n := by
  unfold cutV
  rw [HT.sIx_nat, HT.sIx_none, List.drop_zero, Nat.sub_zero]
  by_cases h : n ≤ xs.length
  · rw [Nat.min_eq_left h]
  · rw [Nat.min_eq_right (by omega), List.take_length, List.take_of_length_le (by omega)]
/-! dicts -/
theorem putK_new {kvs : List (Key × V)} {k : Key} {v : V} (h : ∀ p ∈ kvs, p.1 ≠ k) : putK kvs k v = kvs ++ [(k, v)] := by
  unfold putK
  rw [if_neg]
  intro z
  obtain ⟨p, hp, e⟩ := List.any_eq_true.mp z
  exact h p hp (of_decide_eq_true e)
theorem putK_last {kvs : List (Key × V)} {k : Key} {u v : V} (h : ∀ p ∈ kvs, p.1 ≠ k) : putK (kvs ++ [(k, u)]) k v = kvs ++ [(k, v)] := by
  unfold putK
  rw [if_pos (by simp), List.map_append]
  congr 1
  · conv => rhs; rw [← List.map_id kvs]
    exact List.map_congr_left fun p hp => by rw [if_neg (h p hp)]; rfl
  · simp
/-- sameness but for two things -/
def Fr2 (w q : Addr) (H H' : Hp) : Prop := ∀ b o, b ≠ w → b ≠ q → H b = some o → H' b = some o
end KpR



namespace Kp
open PySem PySem.Spec PyProof.Rows L2 KpR
def topS (i : Nat) : Stmt := PySem.Challenge.pw_wholedrops_k56_rounds_of_great_jars.main.body.getD i (.Pass ⟨0, 0, 0, 0⟩)
abbrev scheckmuch : Stmt := topS 20
abbrev scheckjar : Stmt := topS 21
abbrev scheckdeed : Stmt := topS 22
abbrev sJarsInit : Stmt := inClass (topS 13) 0
abbrev sPourInit : Stmt := inClass (topS 15) 0
abbrev sPutInit : Stmt := inClass (topS 16) 0
abbrev sDrawInit : Stmt := inClass (topS 17) 0
abbrev sChangeInit : Stmt := inClass (topS 18) 0
abbrev sRowInit : Stmt := inClass (topS 19) 0
abbrev scheckstart : Stmt := topS 24
abbrev sbehinddeed : Stmt := topS 25
abbrev sbehindround : Stmt := topS 26
abbrev sfate : Stmt := topS 29
abbrev sLcellat : Stmt := topS 31
abbrev sLwell : Stmt := topS 32
abbrev sLdraw : Stmt := topS 33
abbrev sLof : Stmt := topS 34
abbrev sLdeedmade : Stmt := topS 35
abbrev sLrow : Stmt := topS 36
abbrev sLonce : Stmt := topS 37
abbrev sLgreat : Stmt := topS 38
abbrev sLover : Stmt := topS 39
abbrev sLriseright : Stmt := topS 40
abbrev sLchangesright : Stmt := topS 41
abbrev sLpouredright : Stmt := topS 42
abbrev slaw : Stmt := topS 43
theorem sccheckmuch : FnScope ["what", "much"] ["what", "much"] (defScope scheckmuch) := ⟨rfl, rfl, rfl, by decide +kernel, rfl, by decide +kernel, by decide +kernel⟩
theorem sccheckjar : FnScope ["jars", "jar"] ["jars", "jar"] (defScope scheckjar) := ⟨rfl, rfl, rfl, by decide +kernel, rfl, by decide +kernel, by decide +kernel⟩
theorem sccheckdeed : FnScope ["jars", "deed"] ["jars", "deed"] (defScope scheckdeed) := ⟨rfl, rfl, rfl, by decide +kernel, rfl, by decide +kernel, by decide +kernel⟩
theorem scJarsInit : FnScope ["self", "sizes", "size"] ["self", "sizes"] (defScope sJarsInit) := ⟨rfl, rfl, rfl, by decide +kernel, rfl, by decide +kernel, by decide +kernel⟩
theorem scPourInit : FnScope ["self", "a", "b"] ["self", "a", "b"] (defScope sPourInit) := ⟨rfl, rfl, rfl, by decide +kernel, rfl, by decide +kernel, by decide +kernel⟩
theorem scPutInit : FnScope ["self", "a", "k"] ["self", "a", "k"] (defScope sPutInit) := ⟨rfl, rfl, rfl, by decide +kernel, rfl, by decide +kernel, by decide +kernel⟩
theorem scDrawInit : FnScope ["self", "a", "k"] ["self", "a", "k"] (defScope sDrawInit) := ⟨rfl, rfl, rfl, by decide +kernel, rfl, by decide +kernel, by decide +kernel⟩
theorem scChangeInit : FnScope ["self", "a", "b"] ["self", "a", "b"] (defScope sChangeInit) := ⟨rfl, rfl, rfl, by decide +kernel, rfl, by decide +kernel, by decide +kernel⟩
theorem scRowInit : FnScope ["self", "jars", "deeds", "deed"] ["self", "jars", "deeds"] (defScope sRowInit) := ⟨rfl, rfl, rfl, by decide +kernel, rfl, by decide +kernel, by decide +kernel⟩
theorem sccheckstart : FnScope ["jars", "start", "parts", "jar", "size"] ["jars", "start", "parts"] (defScope scheckstart) := ⟨rfl, rfl, rfl, by decide +kernel, rfl, by decide +kernel, by decide +kernel⟩
theorem scbehinddeed : FnScope ["jars", "deed", "stand", "parts", "after", "a", "b", "moved"] ["jars", "deed", "stand", "parts"] (defScope sbehinddeed) := ⟨rfl, rfl, rfl, by decide +kernel, rfl, by decide +kernel, by decide +kernel⟩
theorem scbehindround : FnScope ["row", "stand", "parts", "after", "deed"] ["row", "stand", "parts"] (defScope sbehindround) := ⟨rfl, rfl, rfl, by decide +kernel, rfl, by decide +kernel, by decide +kernel⟩
theorem scfate : FnScope ["row", "start", "parts", "stand", "seen", "rounds"] ["row", "start", "parts"] (defScope sfate) := ⟨rfl, rfl, rfl, by decide +kernel, rfl, by decide +kernel, by decide +kernel⟩
theorem scLcellat : FnScope ["_law_script", "_law_k"] ["_law_script", "_law_k"] (defScope sLcellat) := ⟨rfl, rfl, rfl, by decide +kernel, rfl, by decide +kernel, by decide +kernel⟩
theorem scLwell : FnScope ["_law_cell"] ["_law_cell"] (defScope sLwell) := ⟨rfl, rfl, rfl, by decide +kernel, rfl, by decide +kernel, by decide +kernel⟩
theorem scLdraw : FnScope ["_law_well_here", "_law_size", "_law_digit", "_law_mixed"] ["_law_well_here", "_law_size"] (defScope sLdraw) := ⟨rfl, rfl, rfl, by decide +kernel, rfl, by decide +kernel, by decide +kernel⟩
theorem scLof : FnScope ["_law_well_here", "_law_some"] ["_law_well_here", "_law_some"] (defScope sLof) := ⟨rfl, rfl, rfl, by decide +kernel, rfl, by decide +kernel, by decide +kernel⟩
theorem scLdeedmade : FnScope ["_law_word", "_law_a", "_law_last"] ["_law_word", "_law_a", "_law_last"] (defScope sLdeedmade) := ⟨rfl, rfl, rfl, by decide +kernel, rfl, by decide +kernel, by decide +kernel⟩
theorem scLrow : FnScope ["_law_sizes", "_law_deeds", "_law_word", "_law_a", "_law_last"] ["_law_sizes", "_law_deeds"] (defScope sLrow) := ⟨rfl, rfl, rfl, by decide +kernel, rfl, by decide +kernel, by decide +kernel⟩
theorem scLonce : FnScope ["_law_sizes", "_law_deeds", "_law_begun", "_law_shares", "_law_found", "_law_word", "_law_a", "_law_last", "_law_both"] ["_law_sizes", "_law_deeds", "_law_begun", "_law_shares"] (defScope sLonce) := ⟨rfl, rfl, rfl, by decide +kernel, rfl, by decide +kernel, by decide +kernel⟩
theorem scLgreat : FnScope ["_law_well_here"] ["_law_well_here"] (defScope sLgreat) := ⟨rfl, rfl, rfl, by decide +kernel, rfl, by decide +kernel, by decide +kernel⟩
theorem scLover : FnScope ["_law_number", "_law_by"] ["_law_number", "_law_by"] (defScope sLover) := ⟨rfl, rfl, rfl, by decide +kernel, rfl, by decide +kernel, by decide +kernel⟩
theorem scLriseright : FnScope ["_law_well_here", "_law_is_up", "_law_size", "_law_step", "_law_little", "_law_deeds", "_law_goal", "_law_shares", "_law_start", "_law_away", "_law_due", "_law_row_here"] ["_law_well_here", "_law_is_up"] (defScope sLriseright) := ⟨rfl, rfl, rfl, by decide +kernel, rfl, by decide +kernel, by decide +kernel⟩
theorem scLchangesright : FnScope ["_law_well_here", "_law_jars", "_law_sizes", "_law_deeds", "_law_k", "_law_a", "_law_few", "_law_start", "_law_many", "_law_stand"] ["_law_well_here"] (defScope sLchangesright) := ⟨rfl, rfl, rfl, by decide +kernel, rfl, by decide +kernel, by decide +kernel⟩
theorem scLpouredright : FnScope ["_law_well_here", "_law_size", "_law_wide", "_law_little", "_law_shares", "_law_start", "_law_deeds", "_law_due"] ["_law_well_here"] (defScope sLpouredright) := ⟨rfl, rfl, rfl, by decide +kernel, rfl, by decide +kernel, by decide +kernel⟩
theorem sclaw : FnScope ["_law_script", "_law_cell", "_law_well_here"] ["_law_script"] (defScope slaw) := ⟨rfl, rfl, rfl, by decide +kernel, rfl, by decide +kernel, by decide +kernel⟩
structure TyIns (K : PySem.W.Frag) (C : Addr) : Prop where
  ha : PySem.W.findIn K (.ref C) "__class__" = some (some (.builtin "object.__class__"))
  hn : PySem.W.specialIn K (.builtin "object.__class__") "__get__" = some (some (.builtin "getset_descriptor.__get__"))
  ht : PySem.W.takesIn K (.builtin "object.__class__") = some true
  hm : PySem.W.mroIn K C (.type "object") = some true
structure Tx (K : PySem.W.Frag) (mg : Str → Option Value) : Type where
  cJars : Addr
  cPour : Addr
  cPut : Addr
  cDraw : Addr
  cChange : Addr
  cRow : Addr
  acheckmuch : Addr
  dcheckmuch : FuncData
  acheckjar : Addr
  dcheckjar : FuncData
  acheckdeed : Addr
  dcheckdeed : FuncData
  aJarsInit : Addr
  dJarsInit : FuncData
  aPourInit : Addr
  dPourInit : FuncData
  aPutInit : Addr
  dPutInit : FuncData
  aDrawInit : Addr
  dDrawInit : FuncData
  aChangeInit : Addr
  dChangeInit : FuncData
  aRowInit : Addr
  dRowInit : FuncData
  acheckstart : Addr
  dcheckstart : FuncData
  abehinddeed : Addr
  dbehinddeed : FuncData
  abehindround : Addr
  dbehindround : FuncData
  afate : Addr
  dfate : FuncData
  aLcellat : Addr
  dLcellat : FuncData
  aLwell : Addr
  dLwell : FuncData
  aLdraw : Addr
  dLdraw : FuncData
  aLof : Addr
  dLof : FuncData
  aLdeedmade : Addr
  dLdeedmade : FuncData
  aLrow : Addr
  dLrow : FuncData
  aLonce : Addr
  dLonce : FuncData
  aLgreat : Addr
  dLgreat : FuncData
  aLover : Addr
  dLover : FuncData
  aLriseright : Addr
  dLriseright : FuncData
  aLchangesright : Addr
  dLchangesright : FuncData
  aLpouredright : Addr
  dLpouredright : FuncData
  alaw : Addr
  dlaw : FuncData
  tMOSTJARS : Tok
  tMOSTDEEDS : Tok
  tMOSTMUCH : Tok
  tMOSTROUNDS : Tok
  fcheckmuch : Fun K "check_much" "check_much" scheckmuch acheckmuch dcheckmuch
  bcheckmuch : Binds K dcheckmuch ["what", "much"] []
  gcheckmuch : mg "check_much" = some (.ref acheckmuch)
  fcheckjar : Fun K "check_jar" "check_jar" scheckjar acheckjar dcheckjar
  bcheckjar : Binds K dcheckjar ["jars", "jar"] []
  gcheckjar : mg "check_jar" = some (.ref acheckjar)
  fcheckdeed : Fun K "check_deed" "check_deed" scheckdeed acheckdeed dcheckdeed
  bcheckdeed : Binds K dcheckdeed ["jars", "deed"] []
  gcheckdeed : mg "check_deed" = some (.ref acheckdeed)
  fJarsInit : Fun K "__init__" "Jars.__init__" sJarsInit aJarsInit dJarsInit
  bJarsInit : Binds K dJarsInit ["self", "sizes"] []
  fPourInit : Fun K "__init__" "Pour.__init__" sPourInit aPourInit dPourInit
  bPourInit : Binds K dPourInit ["self", "a", "b"] []
  fPutInit : Fun K "__init__" "Put.__init__" sPutInit aPutInit dPutInit
  bPutInit : Binds K dPutInit ["self", "a", "k"] []
  fDrawInit : Fun K "__init__" "Draw.__init__" sDrawInit aDrawInit dDrawInit
  bDrawInit : Binds K dDrawInit ["self", "a", "k"] []
  fChangeInit : Fun K "__init__" "Change.__init__" sChangeInit aChangeInit dChangeInit
  bChangeInit : Binds K dChangeInit ["self", "a", "b"] []
  fRowInit : Fun K "__init__" "Row.__init__" sRowInit aRowInit dRowInit
  bRowInit : Binds K dRowInit ["self", "jars", "deeds"] []
  fcheckstart : Fun K "check_start" "check_start" scheckstart acheckstart dcheckstart
  bcheckstart : Binds K dcheckstart ["jars", "start", "parts"] []
  gcheckstart : mg "check_start" = some (.ref acheckstart)
  fbehinddeed : Fun K "behind_deed" "behind_deed" sbehinddeed abehinddeed dbehinddeed
  bbehinddeed : Binds K dbehinddeed ["jars", "deed", "stand", "parts"] []
  gbehinddeed : mg "behind_deed" = some (.ref abehinddeed)
  fbehindround : Fun K "behind_round" "behind_round" sbehindround abehindround dbehindround
  bbehindround : Binds K dbehindround ["row", "stand", "parts"] []
  gbehindround : mg "behind_round" = some (.ref abehindround)
  ffate : FunD K "fate" "fate" (defArgs sfate) (defBody sfate) (defScope sfate) [] [("parts", .int 1)] afate dfate
  gfate : mg "fate" = some (.ref afate)
  fLcellat : Fun K "_law_cell_at" "_law_cell_at" sLcellat aLcellat dLcellat
  bLcellat : Binds K dLcellat ["_law_script", "_law_k"] []
  gLcellat : mg "_law_cell_at" = some (.ref aLcellat)
  fLwell : Fun K "_law_well" "_law_well" sLwell aLwell dLwell
  bLwell : Binds K dLwell ["_law_cell"] []
  gLwell : mg "_law_well" = some (.ref aLwell)
  fLdraw : Fun K "_law_draw" "_law_draw" sLdraw aLdraw dLdraw
  bLdraw : Binds K dLdraw ["_law_well_here", "_law_size"] []
  gLdraw : mg "_law_draw" = some (.ref aLdraw)
  fLof : Fun K "_law_of" "_law_of" sLof aLof dLof
  bLof : Binds K dLof ["_law_well_here", "_law_some"] []
  gLof : mg "_law_of" = some (.ref aLof)
  fLdeedmade : Fun K "_law_deed_made" "_law_deed_made" sLdeedmade aLdeedmade dLdeedmade
  bLdeedmade : Binds K dLdeedmade ["_law_word", "_law_a", "_law_last"] []
  gLdeedmade : mg "_law_deed_made" = some (.ref aLdeedmade)
  fLrow : Fun K "_law_row" "_law_row" sLrow aLrow dLrow
  bLrow : Binds K dLrow ["_law_sizes", "_law_deeds"] []
  gLrow : mg "_law_row" = some (.ref aLrow)
  fLonce : Fun K "_law_once" "_law_once" sLonce aLonce dLonce
  bLonce : Binds K dLonce ["_law_sizes", "_law_deeds", "_law_begun", "_law_shares"] []
  gLonce : mg "_law_once" = some (.ref aLonce)
  fLgreat : Fun K "_law_great" "_law_great" sLgreat aLgreat dLgreat
  bLgreat : Binds K dLgreat ["_law_well_here"] []
  gLgreat : mg "_law_great" = some (.ref aLgreat)
  fLover : Fun K "_law_over" "_law_over" sLover aLover dLover
  bLover : Binds K dLover ["_law_number", "_law_by"] []
  gLover : mg "_law_over" = some (.ref aLover)
  fLriseright : Fun K "_law_rise_right" "_law_rise_right" sLriseright aLriseright dLriseright
  bLriseright : Binds K dLriseright ["_law_well_here", "_law_is_up"] []
  gLriseright : mg "_law_rise_right" = some (.ref aLriseright)
  fLchangesright : Fun K "_law_changes_right" "_law_changes_right" sLchangesright aLchangesright dLchangesright
  bLchangesright : Binds K dLchangesright ["_law_well_here"] []
  gLchangesright : mg "_law_changes_right" = some (.ref aLchangesright)
  fLpouredright : Fun K "_law_poured_right" "_law_poured_right" sLpouredright aLpouredright dLpouredright
  bLpouredright : Binds K dLpouredright ["_law_well_here"] []
  gLpouredright : mg "_law_poured_right" = some (.ref aLpouredright)
  flaw : Fun K "law" "law" slaw alaw dlaw
  blaw : Binds K dlaw ["_law_script"] []
  glaw : mg "law" = some (.ref alaw)
  mJars : mg "Jars" = some (.ref cJars)
  lJars : Cls K cJars
  kJars : Mk K cJars aJarsInit
  nJars_sizes : NoAttr K cJars "sizes"
  mPour : mg "Pour" = some (.ref cPour)
  lPour : Cls K cPour
  kPour : Mk K cPour aPourInit
  nPour_a : NoAttr K cPour "a"
  nPour_b : NoAttr K cPour "b"
  mPut : mg "Put" = some (.ref cPut)
  lPut : Cls K cPut
  kPut : Mk K cPut aPutInit
  nPut_a : NoAttr K cPut "a"
  nPut_k : NoAttr K cPut "k"
  mDraw : mg "Draw" = some (.ref cDraw)
  lDraw : Cls K cDraw
  kDraw : Mk K cDraw aDrawInit
  nDraw_a : NoAttr K cDraw "a"
  nDraw_k : NoAttr K cDraw "k"
  mChange : mg "Change" = some (.ref cChange)
  lChange : Cls K cChange
  kChange : Mk K cChange aChangeInit
  nChange_a : NoAttr K cChange "a"
  nChange_b : NoAttr K cChange "b"
  mRow : mg "Row" = some (.ref cRow)
  lRow : Cls K cRow
  kRow : Mk K cRow aRowInit
  nRow_jars : NoAttr K cRow "jars"
  nRow_deeds : NoAttr K cRow "deeds"
  yChange : TyIns K cChange
  yDraw : TyIns K cDraw
  yPour : TyIns K cPour
  yPut : TyIns K cPut
  iPour_Put : PySem.W.kitOne K (.ref cPour) (.ref cPut) = some false
  iPour_Draw : PySem.W.kitOne K (.ref cPour) (.ref cDraw) = some false
  iPour_Pour : PySem.W.kitOne K (.ref cPour) (.ref cPour) = some true
  iPour_Change : PySem.W.kitOne K (.ref cPour) (.ref cChange) = some false
  iPut_Put : PySem.W.kitOne K (.ref cPut) (.ref cPut) = some true
  iPut_Draw : PySem.W.kitOne K (.ref cPut) (.ref cDraw) = some false
  iPut_Pour : PySem.W.kitOne K (.ref cPut) (.ref cPour) = some false
  iPut_Change : PySem.W.kitOne K (.ref cPut) (.ref cChange) = some false
  iDraw_Put : PySem.W.kitOne K (.ref cDraw) (.ref cPut) = some false
  iDraw_Draw : PySem.W.kitOne K (.ref cDraw) (.ref cDraw) = some true
  iDraw_Pour : PySem.W.kitOne K (.ref cDraw) (.ref cPour) = some false
  iDraw_Change : PySem.W.kitOne K (.ref cDraw) (.ref cChange) = some false
  iChange_Put : PySem.W.kitOne K (.ref cChange) (.ref cPut) = some false
  iChange_Draw : PySem.W.kitOne K (.ref cChange) (.ref cDraw) = some false
  iChange_Pour : PySem.W.kitOne K (.ref cChange) (.ref cPour) = some false
  iChange_Change : PySem.W.kitOne K (.ref cChange) (.ref cChange) = some true
  cMOSTJARS : mg "MOST_JARS" = some (.int 6 tMOSTJARS)
  cMOSTDEEDS : mg "MOST_DEEDS" = some (.int 20 tMOSTDEEDS)
  cMOSTMUCH : mg "MOST_MUCH" = some (.int 1000000000000 tMOSTMUCH)
  cMOSTROUNDS : mg "MOST_ROUNDS" = some (.int 20000 tMOSTROUNDS)
  nenumerate : mg "enumerate" = none
  nint : mg "int" = none
  nisinstance : mg "isinstance" = none
  nlen : mg "len" = none
  nlist : mg "list" = none
  nmax : mg "max" = none
  nmin : mg "min" = none
  nrange : mg "range" = none
  nsum : mg "sum" = none
  ntuple : mg "tuple" = none
/-! ### fields -/
theorem put2 {a b : Str} {u v : V} (h : ¬ a = b) : putF b v (putF a u []) = ([(a, u), (b, v)] : List (Str × V)) := by
  show (if a = b then [(a, v)] else (a, u) :: putF b v []) = [(a, u), (b, v)]
  rw [if_neg h]
  rfl
theorem put_app {b : Str} {v : V} : ∀ {l : List (Str × V)}, (∀ p ∈ l, ¬ p.1 = b) → putF b v l = l ++ [(b, v)]
  | [], _ => rfl
  | (a, u) :: r, h => by
    show (if a = b then (a, v) :: r else (a, u) :: putF b v r) = (a, u) :: (r ++ [(b, v)])
    rw [if_neg (h (a, u) (List.mem_cons_self ..)), put_app fun p hp => h p (List.mem_cons_of_mem _ hp)]
theorem lk1 {a : Str} {x : V} {r : List (Str × V)} : List.lookup a ((a, x) :: r) = some x := by simp [List.lookup]
theorem lkS {a b : Str} {x : V} {r : List (Str × V)} (h : ¬ b = a) : List.lookup b ((a, x) :: r) = List.lookup b r := by
  have : (b == a) = false := by simpa using h
  simp [List.lookup, this]
theorem lk2 {a b : Str} {x y : V} {r : List (Str × V)} (h : ¬ b = a) : List.lookup b ((a, x) :: (b, y) :: r) = some y := (lkS h).trans lk1
theorem lk3 {a b c : Str} {x y z : V} {r : List (Str × V)} (h : ¬ c = a) (h2 : ¬ c = b) : List.lookup c ((a, x) :: (b, y) :: (c, z) :: r) = some z := (lkS h).trans ((lkS h2).trans lk1)
theorem lk4 {a b c d : Str} {x y z w : V} {r : List (Str × V)} (h : ¬ d = a) (h2 : ¬ d = b) (h3 : ¬ d = c) : List.lookup d ((a, x) :: (b, y) :: (c, z) :: (d, w) :: r) = some w := (lkS h).trans ((lkS h2).trans ((lkS h3).trans lk1))
theorem lk5 {a b c d e : Str} {x y z w q : V} {r : List (Str × V)} (h : ¬ e = a) (h2 : ¬ e = b) (h3 : ¬ e = c) (h4 : ¬ e = d) : List.lookup e ((a, x) :: (b, y) :: (c, z) :: (d, w) :: (e, q) :: r) = some q := (lkS h).trans ((lkS h2).trans ((lkS h3).trans ((lkS h4).trans lk1)))
def rLenK (K : PySem.W.Frag) : List V → Hp → VK → Prop := fun xs H Q => ∃ p ys, xs = [V.ref p] ∧ (SqL K H p ys ∨ SqT K H p ys) ∧ Q (V.int (ys.length : Nat)) H
/-! ### things in the heap -/
section
variable {K : PySem.W.Frag} {mg : Str → Option Value}
def f1s (a : Str) (x : V) : List (Str × V) := [(a, x)]
def f2s (a : Str) (x : V) (b : Str) (y : V) : List (Str × V) := [(a, x), (b, y)]
/-- what a grower holds -/
def fgs (x y : V) (n : Int) : List (Str × V) := [("jars", x), ("deeds", y), ("leaves", .int n)]
def DeedAt (T : Tx K mg) (H : Hp) (v : V) (d : D) : Prop := ∃ p dx, v = .ref p ∧ match d with
  | .pour a b => H p = some (.ins T.cPour dx (f2s "a" (.int a) "b" (.int b)))
  | .put a k => H p = some (.ins T.cPut dx (f2s "a" (.int a) "k" (.int k)))
  | .draw a k => H p = some (.ins T.cDraw dx (f2s "a" (.int a) "k" (.int k)))
  | .change a b => H p = some (.ins T.cChange dx (f2s "a" (.int a) "b" (.int b)))
def JarsAt (T : Tx K mg) (H : Hp) (p : Addr) (caps : List Int) : Prop := ∃ dx t, H p = some (.ins T.cJars dx (f1s "sizes" (.ref t))) ∧ H t = some (.tup (vi caps))
def RowAt (T : Tx K mg) (H : Hp) (r : Addr) (caps : List Int) (ds : List D) : Prop := ∃ dx j t vs, H r = some (.ins T.cRow dx (f2s "jars" (.ref j) "deeds" (.ref t))) ∧ JarsAt T H j caps ∧ H t = some (.tup vs) ∧ A2 (DeedAt T H) vs ds
theorem DeedAt.same {T : Tx K mg} {H H' : Hp} {v : V} {d : D} (e : Same H H') (h : DeedAt T H v d) : DeedAt T H' v d := by
  obtain ⟨p, dx, rfl, h⟩ := h
  refine ⟨p, dx, rfl, ?_⟩
  cases d <;> exact e _ _ h
theorem JarsAt.same {T : Tx K mg} {H H' : Hp} {p : Addr} {caps : List Int} (e : Same H H') (h : JarsAt T H p caps) : JarsAt T H' p caps := by
  obtain ⟨dx, t, h1, h2⟩ := h
  exact ⟨dx, t, e _ _ h1, e _ _ h2⟩
theorem RowAt.same {T : Tx K mg} {H H' : Hp} {p : Addr} {caps : List Int} {ds : List D} (e : Same H H') (h : RowAt T H p caps ds) : RowAt T H' p caps ds := by
  obtain ⟨dx, j, t, vs, h1, h2, h3, h4⟩ := h
  exact ⟨dx, j, t, vs, e _ _ h1, h2.same e, e _ _ h3, A2.mono (fun _ _ q => q.same e) h4⟩
/-- a list, an instance without fields, or a grower: what a def may change -/
def Blank (o : HO) : Prop := (∃ ws, o = .lst ws) ∨ (∃ C dx, o = .ins C dx []) ∨ (∃ C dx x y n, o = .ins C dx (fgs x y n)) ∨ ∃ kvs, o = .dK kvs
theorem bl_l {ws : List V} : Blank (.lst ws) := .inl ⟨ws, rfl⟩
theorem bl_i {C dx : Addr} : Blank (.ins C dx []) := .inr (.inl ⟨C, dx, rfl⟩)
theorem bl_g {C dx : Addr} {x y : V} {n : Int} : Blank (.ins C dx (fgs x y n)) := .inr (.inr (.inl ⟨C, dx, x, y, n, rfl⟩))
theorem bl_d {kvs : List (Key × V)} : Blank (.dK kvs) := .inr (.inr (.inr ⟨kvs, rfl⟩))
theorem nbI {C dx : Addr} {fs : List (Str × V)} (h0 : fs ≠ []) (h : ∀ x y n, fs ≠ fgs x y n) : ¬ Blank (.ins C dx fs) := by
  rintro (⟨_, z⟩ | ⟨_, _, z⟩ | ⟨_, _, x, y, n, z⟩ | ⟨_, z⟩)
  · cases z
  · injection z with _ _ z
    exact h0 z
  · injection z with _ _ z
    exact h x y n z
  · cases z
theorem nb1 {C dx : Addr} {a : Str} {x : V} : ¬ Blank (.ins C dx (f1s a x)) := nbI (fun z => by cases z) fun _ _ _ z => by simp [f1s, fgs] at z
theorem nb2 {C dx : Addr} {a b : Str} {x y : V} : ¬ Blank (.ins C dx (f2s a x b y)) := nbI (fun z => by cases z) fun _ _ _ z => by simp [f2s, fgs] at z
theorem nbT {xs : List V} : ¬ Blank (.tup xs) := by
  rintro (⟨_, z⟩ | ⟨_, _, z⟩ | ⟨_, _, _, _, _, z⟩ | ⟨_, z⟩) <;> cases z
/-- all but one thing at w stays: what is no list stays -/
theorem fr_no {w : Addr} {H H' : Hp} {u : HO} {b : Addr} {o : HO} (e : Fr w H H') (hw : H w = some u) (hb : Blank u) (h : H b = some o) (n : ¬ Blank o) : H' b = some o :=
  e b o (fun z => by rw [z, hw] at h; cases h; exact n hb) h
theorem DeedAt.fr {T : Tx K mg} {w : Addr} {H H' : Hp} {u : HO} {v : V} {d : D} (e : Fr w H H') (hw : H w = some u) (hb : Blank u) (h : DeedAt T H v d) : DeedAt T H' v d := by
  obtain ⟨p, dx, rfl, h⟩ := h
  refine ⟨p, dx, rfl, ?_⟩
  cases d <;> exact fr_no e hw hb h nb2
theorem JarsAt.fr {T : Tx K mg} {w : Addr} {H H' : Hp} {u : HO} {p : Addr} {caps : List Int} (e : Fr w H H') (hw : H w = some u) (hb : Blank u) (h : JarsAt T H p caps) : JarsAt T H' p caps := by
  obtain ⟨dx, t, h1, h2⟩ := h
  exact ⟨dx, t, fr_no e hw hb h1 nb1, fr_no e hw hb h2 nbT⟩
theorem RowAt.fr {T : Tx K mg} {w : Addr} {H H' : Hp} {u : HO} {p : Addr} {caps : List Int} {ds : List D} (e : Fr w H H') (hw : H w = some u) (hb : Blank u) (h : RowAt T H p caps ds) : RowAt T H' p caps ds := by
  obtain ⟨dx, j, t, vs, h1, h2, h3, h4⟩ := h
  exact ⟨dx, j, t, vs, fr_no e hw hb h1 nb2, h2.fr e hw hb, fr_no e hw hb h3 nbT, A2.mono (fun _ _ q => q.fr e hw hb) h4⟩
/-! ### the promises of the program's defs -/
def spcheckmuch (T : Tx K mg) : Sp := fun vs H Q _ => ∃ (x : Str) (n : Int), vs = [.str x, .int n] ∧ 1 ≤ n ∧ n ≤ 1000000000000 ∧ Q .non H
def spcheckjar (T : Tx K mg) : Sp := fun vs H Q _ => ∃ (j : Addr) (caps : List Int) (i : Nat), vs = [.ref j, .int i] ∧ JarsAt T H j caps ∧ i < caps.length ∧ Q .non H
def spcheckdeed (T : Tx K mg) : Sp := fun vs H Q _ => ∃ (j : Addr) (caps : List Int) (v : V) (d : D), vs = [.ref j, v] ∧ JarsAt T H j caps ∧ DeedAt T H v d ∧ d.ok caps ∧ Q .non H
def spJarsInit (T : Tx K mg) : Sp := fun vs H Q _ => ∃ (p dx a : Addr) (caps : List Int), vs = [.ref p, .ref a] ∧ H p = some (.ins T.cJars dx []) ∧ H a = some (.tup (vi caps)) ∧ Caps caps ∧
  ∀ H', JarsAt T H' p caps → Fr p H H' → Q .non H'
/-- an __init__ that stores two ints -/
def spTwo (C : Addr) (f g : Str) : Sp := fun vs H Q _ => ∃ (p dx : Addr) (u v : V), vs = [.ref p, u, v] ∧ H p = some (.ins C dx []) ∧ ∀ H', H' p = some (.ins C dx (f2s f u g v)) → Fr p H H' → Q .non H'
def spPourInit (T : Tx K mg) : Sp := spTwo T.cPour "a" "b"
def spPutInit (T : Tx K mg) : Sp := spTwo T.cPut "a" "k"
def spDrawInit (T : Tx K mg) : Sp := spTwo T.cDraw "a" "k"
def spChangeInit (T : Tx K mg) : Sp := spTwo T.cChange "a" "b"
def spRowInit (T : Tx K mg) : Sp := fun vs H Q _ => ∃ (p dx j a : Addr) (caps : List Int) (us : List V) (ds : List D), vs = [.ref p, .ref j, .ref a] ∧ H p = some (.ins T.cRow dx []) ∧ JarsAt T H j caps ∧ H a = some (.lst us) ∧ A2 (DeedAt T H) us ds ∧
  ds.length ≤ 20 ∧ (∀ d ∈ ds, d.ok caps) ∧ ∀ H', RowAt T H' p caps ds → Fr p H H' → Q .non H'
end
section
variable {P : Program} {w : World} {K : PySem.W.Frag} {mg : Str → Option Value} {base : Heap}
/-! ### the program's bodies -/
theorem okcheckmuch (T : Tx K mg) : FnOk P w K mg base CX0 1 T.acheckmuch T.dcheckmuch ["what", "much"] (spcheckmuch T) := by
  refine T.fcheckmuch.ok sccheckmuch (fun vs H Q E h => ?_) (fun cdv A outer s H vs Q E hr h => ?_)
  · obtain ⟨x, n, rfl, _⟩ := h
    rfl
  · obtain ⟨x, n, rfl, h1, h2, hq⟩ := h
    refine ⟨_, (pss_one (ps_if (pt_not (pt_chain op_le op_le pe_int (pv 1) (pe_glob (v := .int 1000000000000) rfl T.cMOSTMUCH ⟨_, rfl⟩))) (pss_one ps_never) pss_nil)), ?_⟩
    refine ⟨_, rfl, _, _, rfl, rfl, _, rfl, ifT (decide_eq_true h1) ?_⟩
    exact ⟨_, _, rfl, rfl, _, rfl, iteNS h2 hq⟩
theorem okcheckjar (T : Tx K mg) : FnOk P w K mg base CX0 1 T.acheckjar T.dcheckjar ["jars", "jar"] (spcheckjar T) := by
  refine T.fcheckjar.ok sccheckjar (fun vs H Q E h => ?_) (fun cdv A outer s H vs Q E hr h => ?_)
  · obtain ⟨j, caps, i, rfl, _⟩ := h
    rfl
  · obtain ⟨j, caps, i, rfl, ⟨dx, t, e1, e2⟩, hi, hq⟩ := h
    refine ⟨_, (pss_one (ps_if (pt_not (pt_chain op_le op_lt pe_int (pv 1) (pe_callB call_len_seq rfl T.nlen PySem.boot_len (pa_cons (pe_fld (pv 0) rfl) pa_nil)))) (pss_one ps_never) pss_nil)), ?_⟩
    refine ⟨_, rfl, _, _, rfl, rfl, _, rfl, ifT (decide_eq_true (by omega)) ?_⟩
    refine ⟨_, rfl, j, _, dx, _, _, rfl, e1, T.lJars, T.nJars_sizes, lk1, t, _, rfl, .inr (SqT.of e2), _, _, rfl, rfl, _, rfl, iteNS (by rw [List.length_map]; omega) hq⟩
theorem okPourInit (T : Tx K mg) : FnOk P w K mg base CX0 1 T.aPourInit T.dPourInit ["self", "a", "b"] (spPourInit T) := by
  refine T.fPourInit.ok scPourInit (fun vs H Q E h => ?_) (fun cdv A outer s H vs Q E hr h => ?_)
  · obtain ⟨p, dx, u, v, rfl, _⟩ := h
    rfl
  · obtain ⟨p, dx, u, v, rfl, hp, hq⟩ := h
    refine ⟨_, (pss_cons (ps_fld (pv 0) (pv 1) rfl)
      (pss_one (ps_fld (pv 0) (pv 2) rfl))), ?_⟩
    refine ⟨_, rfl, _, rfl, p, _, dx, _, rfl, hp, T.lPour, T.nPour_a, (by show 0 < 1000; decide), ?_⟩
    refine ⟨_, rfl, _, rfl, p, _, dx, _, rfl, upd_same, T.lPour, T.nPour_b, (by show 1 < 1000; decide), ?_⟩
    refine hq _ ?_ (fr_mut (fr_mut (Fr.refl _ _)))
    rw [upd_same, put2 (by decide +kernel)]
    rfl
theorem okPutInit (T : Tx K mg) : FnOk P w K mg base CX0 1 T.aPutInit T.dPutInit ["self", "a", "k"] (spPutInit T) := by
  refine T.fPutInit.ok scPutInit (fun vs H Q E h => ?_) (fun cdv A outer s H vs Q E hr h => ?_)
  · obtain ⟨p, dx, u, v, rfl, _⟩ := h
    rfl
  · obtain ⟨p, dx, u, v, rfl, hp, hq⟩ := h
    refine ⟨_, (pss_cons (ps_fld (pv 0) (pv 1) rfl)
      (pss_one (ps_fld (pv 0) (pv 2) rfl))), ?_⟩
    refine ⟨_, rfl, _, rfl, p, _, dx, _, rfl, hp, T.lPut, T.nPut_a, (by show 0 < 1000; decide), ?_⟩
    refine ⟨_, rfl, _, rfl, p, _, dx, _, rfl, upd_same, T.lPut, T.nPut_k, (by show 1 < 1000; decide), ?_⟩
    refine hq _ ?_ (fr_mut (fr_mut (Fr.refl _ _)))
    rw [upd_same, put2 (by decide +kernel)]
    rfl
theorem okDrawInit (T : Tx K mg) : FnOk P w K mg base CX0 1 T.aDrawInit T.dDrawInit ["self", "a", "k"] (spDrawInit T) := by
  refine T.fDrawInit.ok scDrawInit (fun vs H Q E h => ?_) (fun cdv A outer s H vs Q E hr h => ?_)
  · obtain ⟨p, dx, u, v, rfl, _⟩ := h
    rfl
  · obtain ⟨p, dx, u, v, rfl, hp, hq⟩ := h
    refine ⟨_, (pss_cons (ps_fld (pv 0) (pv 1) rfl)
      (pss_one (ps_fld (pv 0) (pv 2) rfl))), ?_⟩
    refine ⟨_, rfl, _, rfl, p, _, dx, _, rfl, hp, T.lDraw, T.nDraw_a, (by show 0 < 1000; decide), ?_⟩
    refine ⟨_, rfl, _, rfl, p, _, dx, _, rfl, upd_same, T.lDraw, T.nDraw_k, (by show 1 < 1000; decide), ?_⟩
    refine hq _ ?_ (fr_mut (fr_mut (Fr.refl _ _)))
    rw [upd_same, put2 (by decide +kernel)]
    rfl
theorem okChangeInit (T : Tx K mg) : FnOk P w K mg base CX0 1 T.aChangeInit T.dChangeInit ["self", "a", "b"] (spChangeInit T) := by
  refine T.fChangeInit.ok scChangeInit (fun vs H Q E h => ?_) (fun cdv A outer s H vs Q E hr h => ?_)
  · obtain ⟨p, dx, u, v, rfl, _⟩ := h
    rfl
  · obtain ⟨p, dx, u, v, rfl, hp, hq⟩ := h
    refine ⟨_, (pss_cons (ps_fld (pv 0) (pv 1) rfl)
      (pss_one (ps_fld (pv 0) (pv 2) rfl))), ?_⟩
    refine ⟨_, rfl, _, rfl, p, _, dx, _, rfl, hp, T.lChange, T.nChange_a, (by show 0 < 1000; decide), ?_⟩
    refine ⟨_, rfl, _, rfl, p, _, dx, _, rfl, upd_same, T.lChange, T.nChange_b, (by show 1 < 1000; decide), ?_⟩
    refine hq _ ?_ (fr_mut (fr_mut (Fr.refl _ _)))
    rw [upd_same, put2 (by decide +kernel)]
    rfl
end
end Kp

namespace Kp
open PySem PySem.Spec PyProof.Rows L2 KpR
section
variable {P : Program} {w : World} {K : PySem.W.Frag} {mg : Str → Option Value} {base : Heap}
/-! ### isinstance of a deed -/
def D.cls (T : Tx K mg) : D → Addr
  | .pour _ _ => T.cPour
  | .put _ _ => T.cPut
  | .draw _ _ => T.cDraw
  | .change _ _ => T.cChange
def D.fst : D → Nat
  | .pour a _ => a
  | .put a _ => a
  | .draw a _ => a
  | .change a _ => a
def D.fs : D → List (Str × V)
  | .pour a b => f2s "a" (.int a) "b" (.int b)
  | .put a k => f2s "a" (.int a) "k" (.int k)
  | .draw a k => f2s "a" (.int a) "k" (.int k)
  | .change a b => f2s "a" (.int a) "b" (.int b)
theorem deed_at {T : Tx K mg} {H : Hp} {v : V} {d : D} (h : DeedAt T H v d) : ∃ p dx, v = .ref p ∧ H p = some (.ins (d.cls T) dx d.fs) := by
  obtain ⟨p, dx, rfl, h⟩ := h
  cases d <;> exact ⟨p, dx, rfl, h⟩
theorem cls_cls (T : Tx K mg) (d : D) : Cls K (d.cls T) := by
  cases d
  · exact T.lPour
  · exact T.lPut
  · exact T.lDraw
  · exact T.lChange
theorem no_a (T : Tx K mg) (d : D) : NoAttr K (d.cls T) "a" := by
  cases d
  · exact T.nPour_a
  · exact T.nPut_a
  · exact T.nDraw_a
  · exact T.nChange_a
theorem fs_a (d : D) : d.fs.lookup ("a" : Str) = some (.int d.fst) := by
  cases d <;> exact lk1
theorem ty_deed {T : Tx K mg} {H : Hp} {p dx : Addr} {d : D} (h : H p = some (.ins (d.cls T) dx d.fs)) : TyX K H (.ref p) (.ref (d.cls T)) := by
  refine .base ?_
  cases d
  · exact .ins h T.lPour T.yPour.ha T.yPour.hn T.yPour.ht T.yPour.hm
  · exact .ins h T.lPut T.yPut.ha T.yPut.hn T.yPut.ht T.yPut.hm
  · exact .ins h T.lDraw T.yDraw.ha T.yDraw.hn T.yDraw.ht T.yDraw.hm
  · exact .ins h T.lChange T.yChange.ha T.yChange.hn T.yChange.ht T.yChange.hm
def D.isPut : D → Bool
  | .put _ _ => true
  | _ => false
def D.isDraw : D → Bool
  | .draw _ _ => true
  | _ => false
def D.isPour : D → Bool
  | .pour _ _ => true
  | _ => false
def D.isChange : D → Bool
  | .change _ _ => true
  | _ => false
theorem is_put (T : Tx K mg) (d : D) : PySem.W.kitOne K (.ref (d.cls T)) (.ref T.cPut) = some d.isPut := by
  cases d
  · exact T.iPour_Put
  · exact T.iPut_Put
  · exact T.iDraw_Put
  · exact T.iChange_Put
theorem is_draw (T : Tx K mg) (d : D) : PySem.W.kitOne K (.ref (d.cls T)) (.ref T.cDraw) = some d.isDraw := by
  cases d
  · exact T.iPour_Draw
  · exact T.iPut_Draw
  · exact T.iDraw_Draw
  · exact T.iChange_Draw
theorem is_pour (T : Tx K mg) (d : D) : PySem.W.kitOne K (.ref (d.cls T)) (.ref T.cPour) = some d.isPour := by
  cases d
  · exact T.iPour_Pour
  · exact T.iPut_Pour
  · exact T.iDraw_Pour
  · exact T.iChange_Pour
theorem is_change (T : Tx K mg) (d : D) : PySem.W.kitOne K (.ref (d.cls T)) (.ref T.cChange) = some d.isChange := by
  cases d
  · exact T.iPour_Change
  · exact T.iPut_Change
  · exact T.iDraw_Change
  · exact T.iChange_Change
theorem okcheckdeed (T : Tx K mg) : FnOk P w K mg base CX0 2 T.acheckdeed T.dcheckdeed ["jars", "deed"] (spcheckdeed T) := by
  refine T.fcheckdeed.ok sccheckdeed (fun vs H Q E h => ?_) (fun cdv A outer s H vs Q E hr h => ?_)
  · obtain ⟨j, caps, v, d, rfl, _⟩ := h
    rfl
  · obtain ⟨j, caps, v, d, rfl, hJ, hD, ok, hq⟩ := h
    refine ⟨_, (pss_cons (ps_expr (pe_call (okcheckjar T) (hr.mono (by decide)) rfl T.gcheckjar T.fcheckjar.kp T.bcheckjar .nil pass0 (pa_cons (pv 0) (pa_cons (pe_fld (pv 1) rfl) pa_nil))))
      (pss_cons (ps_if (PW.pt (pw_or (pt_val (pe_callB call_isi rfl T.nisinstance (by decide +kernel) (pa_cons (pv 1) (pa_cons (pe_glob (v := .ref T.cPut) rfl T.mPut rfl) pa_nil)))) (pw_or1 (pt_val (pe_callB call_isi rfl T.nisinstance (by decide +kernel) (pa_cons (pv 1) (pa_cons (pe_glob (v := .ref T.cDraw) rfl T.mDraw rfl) pa_nil))))))) (pss_cons (ps_expr (pe_call (okcheckmuch T) (hr.mono (by decide)) rfl T.gcheckmuch T.fcheckmuch.kp T.bcheckmuch .nil pass0 (pa_cons pe_str (pa_cons (pe_fld (pv 1) rfl) pa_nil))))
      (pss_one ps_retN)) pss_nil)
      (pss_cons (ps_expr (pe_call (okcheckjar T) (hr.mono (by decide)) rfl T.gcheckjar T.fcheckjar.kp T.bcheckjar .nil pass0 (pa_cons (pv 0) (pa_cons (pe_fld (pv 1) rfl) pa_nil))))
      (pss_cons (ps_if (pt_cmpR op_eq (pe_fld (pv 1) rfl) (pe_fld (pv 1) rfl) (nomark _)) (pss_one ps_never) pss_nil)
      (pss_one (ps_if (PW.pt (pw_and (pt_val (pe_callB call_isi rfl T.nisinstance (by decide +kernel) (pa_cons (pv 1) (pa_cons (pe_glob (v := .ref T.cChange) rfl T.mChange rfl) pa_nil)))) (pw_and1 (pt_cmpR op_ne (pe_ix (r := rIxT K) ix_tup (pe_fld (pv 0) rfl) (pe_fld (pv 1) rfl) (fun _ _ => rfl)) (pe_ix (r := rIxT K) ix_tup (pe_fld (pv 0) rfl) (pe_fld (pv 1) rfl) (fun _ _ => rfl)) (nomark _))))) (pss_one ps_never) pss_nil)))))), ?_⟩
    obtain ⟨p, dx, rfl, hp⟩ := deed_at hD
    have ty := ty_deed hp
    have ha : d.fst < caps.length := by cases d <;> exact ok.1
    refine ⟨_, rfl, _, rfl, p, _, dx, _, _, rfl, hp, cls_cls T d, no_a T d, fs_a d, j, caps, d.fst, rfl, hJ, ha, ?_⟩
    obtain ⟨jx, t, e1, e2⟩ := hJ
    refine ⟨_, rfl, .ref p, .ref T.cPut, _, _, _, rfl, .own _, ty, is_put T d, _, rfl, ?_⟩
    cases d with
    | put a k =>
      refine ifT rfl (ifT rfl ?_)
      exact ⟨_, rfl, p, _, dx, _, _, rfl, hp, T.lPut, T.nPut_k, lk2 (by decide +kernel), "much", k, rfl, ok.2.1, ok.2.2, hq⟩
    | draw a k =>
      refine ifF rfl ⟨_, rfl, .ref p, .ref T.cDraw, _, _, _, rfl, .own _, ty, T.iDraw_Draw, _, rfl, ifT rfl ?_⟩
      exact ⟨_, rfl, p, _, dx, _, _, rfl, hp, T.lDraw, T.nDraw_k, lk2 (by decide +kernel), "much", k, rfl, ok.2.1, ok.2.2, hq⟩
    | pour a b =>
      refine ifF rfl ⟨_, rfl, .ref p, .ref T.cDraw, _, _, _, rfl, .own _, ty, T.iPour_Draw, _, rfl, ifF rfl ?_⟩
      refine ⟨_, rfl, _, rfl, p, _, dx, _, _, rfl, hp, T.lPour, T.nPour_b, lk2 (by decide +kernel), j, caps, b, rfl, ⟨jx, t, e1, e2⟩, ok.2.1, ?_⟩
      refine ⟨_, rfl, p, _, dx, _, _, rfl, hp, T.lPour, T.nPour_a, lk1, _, rfl, p, _, dx, _, _, rfl, hp, T.lPour, T.nPour_b, lk2 (by decide +kernel), rfl, _, rfl, ifF (decide_eq_false fun z => ok.2.2 (by injection z with z; omega)) ?_⟩
      exact ⟨_, rfl, .ref p, .ref T.cChange, _, _, _, rfl, .own _, ty, T.iPour_Change, _, rfl, ifF rfl (ifF rfl hq)⟩
    | change a b =>
      refine ifF rfl ⟨_, rfl, .ref p, .ref T.cDraw, _, _, _, rfl, .own _, ty, T.iChange_Draw, _, rfl, ifF rfl ?_⟩
      refine ⟨_, rfl, _, rfl, p, _, dx, _, _, rfl, hp, T.lChange, T.nChange_b, lk2 (by decide +kernel), j, caps, b, rfl, ⟨jx, t, e1, e2⟩, ok.2.1, ?_⟩
      refine ⟨_, rfl, p, _, dx, _, _, rfl, hp, T.lChange, T.nChange_a, lk1, _, rfl, p, _, dx, _, _, rfl, hp, T.lChange, T.nChange_b, lk2 (by decide +kernel), rfl, _, rfl, ifF (decide_eq_false fun z => ok.2.2.1 (by injection z with z; omega)) ?_⟩
      refine ⟨_, rfl, .ref p, .ref T.cChange, _, _, _, rfl, .own _, ty, T.iChange_Change, _, rfl, ifT rfl ?_⟩
      refine ⟨_, rfl, j, _, jx, _, _, rfl, e1, T.lJars, T.nJars_sizes, lk1, _, rfl, p, _, dx, _, _, rfl, hp, T.lChange, T.nChange_a, lk1, t, _, _, _, rfl, rfl, SqT.of e2, vi_at ok.1, ?_⟩
      refine ⟨_, rfl, j, _, jx, _, _, rfl, e1, T.lJars, T.nJars_sizes, lk1, _, rfl, p, _, dx, _, _, rfl, hp, T.lChange, T.nChange_b, lk2 (by decide +kernel), t, _, _, _, rfl, rfl, SqT.of e2, vi_at ok.2.1, ?_⟩
      exact ⟨rfl, _, rfl, iteNS (congrArg V.int ok.2.2.2) hq⟩
theorem okJarsInit (T : Tx K mg) : FnOk P w K mg base CX0 2 T.aJarsInit T.dJarsInit ["self", "sizes"] (spJarsInit T) := by
  refine T.fJarsInit.ok scJarsInit (fun vs H Q E h => ?_) (fun cdv A outer s H vs Q E hr h => ?_)
  · obtain ⟨p, dx, a, caps, rfl, _⟩ := h
    rfl
  · obtain ⟨p, dx, a, caps, rfl, hp, hS0, hC, hq⟩ := h
    have hS : SqT K H a (vi caps) := SqT.of hS0
    have c1 := hC.l1
    have c6 := hC.l6
    refine ⟨_, (pss_cons (ps_if (pt_not (pt_chain op_le op_le pe_int (pe_callB call_len_seq rfl T.nlen PySem.boot_len (pa_cons (pv 1) pa_nil)) (pe_glob (v := .int 6) rfl T.cMOSTJARS ⟨_, rfl⟩))) (pss_one ps_never) pss_nil)
      (pss_cons (ps_for PassesOwn.never rfl (pi_tup (pv 1)) (pg_name (i := 2) scJarsInit.nd rfl (by first | exact Or.inl rfl | exact Or.inr rfl)) (pss_one (ps_expr (pe_call (okcheckmuch T) (hr.mono (by decide)) rfl T.gcheckmuch T.fcheckmuch.kp T.bcheckmuch .nil pass0 (pa_cons pe_str (pa_cons (pv 2) pa_nil))))))
      (pss_one (ps_fld (pv 0) (pe_callTy call_tuple_of rfl T.ntuple (by decide +kernel) (pa_cons (pv 1) pa_nil)) rfl)))), ?_⟩
    refine ⟨_, rfl, a, _, rfl, (.inr hS), 1, _, rfl, rfl, _, rfl, ifT (decide_eq_true (by rw [List.length_map]; omega)) ?_⟩
    refine ⟨_, _, rfl, rfl, _, rfl, iteNS (by rw [List.length_map]; omega) ?_⟩
    refine ⟨_, rfl, a, rfl, ⟨_, hS⟩, for_tup (K := K) (a := a) (xs := vi caps) (fun i σ H' => ∃ v : Option V, σ = [some (.ref p), some (.ref a), v] ∧ H' = H) ⟨none, rfl, rfl⟩ (fun i σ H' _ ⟨_, _, e⟩ => by rw [e]; exact hS) ?_ ?_⟩
    · rintro i y σ H' hi ⟨v, rfl, rfl⟩
      obtain ⟨z, hz, rfl⟩ := vi_get hi
      have lt : i < caps.length := (List.getElem?_eq_some_iff.mp hz).1
      have ez := at0_of hz
      refine ⟨_, rfl, "size", z, rfl, ?_, ?_, some (.int z), rfl, rfl⟩
      · rw [← ez]; exact hC.lo i lt
      · rw [← ez]; exact hC.hi i lt
    · rintro σ H' ⟨v, rfl, rfl⟩
      refine ⟨_, rfl, a, _, rfl, .inr ⟨hS, ?_⟩⟩
      have n : a ≠ p := fun z => by rw [z, hp] at hS0; cases hS0
      refine ⟨_, rfl, p, _, dx, _, rfl, hp, T.lJars, T.nJars_sizes, (by show 0 < 1000; decide), ?_⟩
      exact hq _ ⟨dx, a, upd_same, by rw [upd_ne n]; exact hS0⟩ (fr_mut (Fr.refl _ _))
theorem okRowInit (T : Tx K mg) : FnOk P w K mg base CX0 3 T.aRowInit T.dRowInit ["self", "jars", "deeds"] (spRowInit T) := by
  refine T.fRowInit.ok scRowInit (fun vs H Q E h => ?_) (fun cdv A outer s H vs Q E hr h => ?_)
  · obtain ⟨p, dx, j, a, caps, us, ds, rfl, _⟩ := h
    rfl
  · obtain ⟨p, dx, j, a, caps, us, ds, rfl, hp, hJ, hS, hA, hl, ok, hq⟩ := h
    refine ⟨_, (pss_cons (ps_if (pt_cmpR op_gt (pe_callB call_len_seq rfl T.nlen PySem.boot_len (pa_cons (pv 2) pa_nil)) (pe_glob (v := .int 20) rfl T.cMOSTDEEDS ⟨_, rfl⟩) (nomark _)) (pss_one ps_never) pss_nil)
      (pss_cons (ps_for PassesOwn.never rfl (pi_list (pv 2)) (pg_name (i := 3) scRowInit.nd rfl (by first | exact Or.inl rfl | exact Or.inr rfl)) (pss_one (ps_expr (pe_call (okcheckdeed T) (hr.mono (by decide)) rfl T.gcheckdeed T.fcheckdeed.kp T.bcheckdeed .nil pass0 (pa_cons (pv 1) (pa_cons (pv 3) pa_nil))))))
      (pss_cons (ps_fld (pv 0) (pv 1) rfl)
      (pss_one (ps_fld (pv 0) (pe_callTy call_tuple_of rfl T.ntuple (by decide +kernel) (pa_cons (pv 2) pa_nil)) rfl))))), ?_⟩
    refine ⟨_, rfl, a, _, rfl, .inl (SqL.of hS), _, _, rfl, rfl, _, rfl, ifF (decide_eq_false (by rw [hA.len]; omega)) ?_⟩
    refine ⟨_, rfl, a, rfl, ⟨_, SqL.of hS⟩, for_list (K := K) (a := a) (xs := us) (fun i σ H' => ∃ v : Option V, σ = [some (.ref p), some (.ref j), some (.ref a), v] ∧ H' = H) ⟨none, rfl, rfl⟩ (fun i σ H' _ ⟨_, _, e⟩ => by rw [e]; exact SqL.of hS) ?_ ?_⟩
    · rintro i y σ H' hi ⟨v, rfl, rfl⟩
      obtain ⟨d, hd, hv⟩ := hA.get hi
      exact ⟨_, rfl, _, rfl, j, caps, y, d, rfl, hJ, hv, ok d (List.mem_of_getElem? hd), some y, rfl, rfl⟩
    · rintro σ H' ⟨v, rfl, rfl⟩
      refine ⟨_, rfl, _, rfl, p, _, dx, _, rfl, hp, T.lRow, T.nRow_jars, (by show 0 < 1000; decide), ?_⟩
      have f1 : Fr p H' (upd H' p (.ins T.cRow dx (putF "jars" (.ref j) []))) := fr_mut (Fr.refl _ _)
      have na : a ≠ p := ne_of hS hp (by intro z; cases z)
      refine ⟨_, rfl, a, _, rfl, .inl ⟨f1.sqL na (SqL.of hS), fun t ht => ?_⟩⟩
      have n : p ≠ t := fun z => by rw [← z, upd_same] at ht; cases ht
      have ht0 : H' t = none := fr_free f1 n.symm ht
      refine ⟨_, rfl, p, _, dx, _, rfl, (by rw [upd_ne n]; exact upd_same), T.lRow, T.nRow_deeds, (by show 1 < 1000; decide), ?_⟩
      have fr : Fr p H' (upd (upd (upd H' p (.ins T.cRow dx (putF "jars" (.ref j) []))) t (.tup us)) p (.ins T.cRow dx (putF "deeds" (.ref t) (putF "jars" (.ref j) [])))) := fr_mut (fr_new f1 ht0)
      refine hq _ ⟨dx, j, t, us, ?_, ?_, ?_, ?_⟩ fr
      · rw [upd_same, put2 (by decide +kernel)]
        rfl
      · exact hJ.fr fr hp bl_i
      · rw [upd_ne n.symm]; exact upd_same
      · exact A2.mono (fun _ _ q => q.fr fr hp bl_i) hA
end
end Kp

namespace Kp
open PySem PySem.Spec PyProof.Rows L2 KpR
section
variable {K : PySem.W.Frag} {mg : Str → Option Value}
def spcheckstart (T : Tx K mg) : Sp := fun vs H Q _ => ∃ (j a : Addr) (caps st : List Int) (p : Int), vs = [.ref j, .ref a, .int p] ∧ JarsAt T H j caps ∧ (SqL K H a (vi st) ∨ SqT K H a (vi st)) ∧ 1 ≤ p ∧ p < 2 ^ 62 ∧ Stand caps p st ∧
  ∀ H', Same H H' → Q .non H'
def spbehinddeed (T : Tx K mg) : Sp := fun vs H Q _ => ∃ (j a : Addr) (v : V) (d : D) (caps st : List Int) (p : Int), vs = [.ref j, v, .ref a, .int p] ∧ JarsAt T H j caps ∧ DeedAt T H v d ∧ d.ok caps ∧ SqL K H a (vi st) ∧ 1 ≤ p ∧ p < 2 ^ 62 ∧ st.length = caps.length ∧
  ∀ (H' : Hp) (q : Addr), H q = none → H' q = some (.lst (vi (d.act caps p st))) → Same H H' → Q (.ref q) H'
def spbehindround (T : Tx K mg) : Sp := fun vs H Q _ => ∃ (r a : Addr) (ds : List D) (caps st : List Int) (p : Int), vs = [.ref r, .ref a, .int p] ∧ RowAt T H r caps ds ∧ (∀ d ∈ ds, d.ok caps) ∧ (SqL K H a (vi st) ∨ SqT K H a (vi st)) ∧ 1 ≤ p ∧ p < 2 ^ 62 ∧ st.length = caps.length ∧
  ∀ (H' : Hp) (q : Addr), H q = none → H' q = some (.lst (vi (run caps p ds st))) → Same H H' → Q (.ref q) H'
end
end Kp
namespace Kp
open PySem PySem.Spec PyProof.Rows L2 KpR
section
variable {P : Program} {w : World} {K : PySem.W.Frag} {mg : Str → Option Value} {base : Heap}
def SqA (K : PySem.W.Frag) (H : Hp) (a : Addr) (xs : List V) : Prop := SqL K H a xs ∨ SqT K H a xs
theorem sameA {K : PySem.W.Frag} {H H' : Hp} {a : Addr} {xs : List V} (e : Same H H') (h : SqA K H a xs) : SqA K H' a xs := h.elim (fun h => .inl (e.seq h)) (fun h => .inr (sameT e h))
theorem rix_any {K : PySem.W.Frag} {H : Hp} {a : Addr} {xs : List V} {i : Int} {v : V} {Q : VK} (h : SqA K H a xs) (e : atI xs i = some v) (q : Q v H) : rIx K (.ref a) (.int i) H Q :=
  h.elim (fun h => .inl ⟨a, xs, i, v, rfl, rfl, h, e, q⟩) (fun h => .inr (.inl ⟨a, xs, i, v, rfl, rfl, h, e, q⟩))
theorem mulP {p : Int} (h1 : 1 ≤ p) (h2 : p < 2 ^ 62) : -(2 ^ 64) < p ∧ p < 2 ^ 64 := ⟨by omega, by omega⟩
theorem vi_set {l : List Int} {i : Nat} {z : Int} : (vi l).set i (.int z) = vi (l.set i z) := (List.map_set ..).symm
theorem ixN_nat {n i : Nat} (h : i < n) : ixN n (i : Int) = some i := by
  have e : atI (List.range n) (i : Int) = some i := atI_nat (by simp [h])
  unfold atI at e
  cases z : ixN (List.range n).length (i : Int) with
  | none => rw [z] at e; cases e
  | some j =>
    rw [z] at e
    have e2 : (List.range n)[j]? = some i := e
    have hj := (List.getElem?_eq_some_iff.mp e2).2
    rw [List.getElem_range] at hj
    subst hj
    simpa using z
theorem ixN_last {n : Nat} : ixN (n + 1) (-1) = some n := by
  have e : atI (List.range n ++ [n]) (-1) = some n := atI_last _ _
  unfold atI at e
  have hl : (List.range n ++ [n]).length = n + 1 := by simp
  rw [hl] at e
  cases z : ixN (n + 1) (-1) with
  | none => rw [z] at e; cases e
  | some j =>
    rw [z, ← List.range_succ] at e
    have e2 : (List.range (n + 1))[j]? = some n := e
    have hj := (List.getElem?_eq_some_iff.mp e2).2
    rw [List.getElem_range] at hj
    exact congrArg some hj
theorem okcheckstart (T : Tx K mg) : FnOk P w K mg base CX0 1 T.acheckstart T.dcheckstart ["jars", "start", "parts"] (spcheckstart T) := by
  refine T.fcheckstart.ok sccheckstart (fun vs H Q E h => ?_) (fun cdv A outer s H vs Q E hr h => ?_)
  · obtain ⟨j, a, caps, st, p, rfl, _⟩ := h
    rfl
  · obtain ⟨j, a, caps, st, p, rfl, hJ, hS, p1, p2, hst, hq⟩ := h
    refine ⟨_, (pss_cons (ps_if (pt_cmpR op_lt (pv 2) pe_int (nomark _)) (pss_one ps_never) pss_nil)
      (pss_cons (ps_if (pt_cmpR op_ne (pe_callB call_len_seq rfl T.nlen PySem.boot_len (pa_cons (pv 1) pa_nil)) (pe_callB call_len_seq rfl T.nlen PySem.boot_len (pa_cons (pe_fld (pv 0) rfl) pa_nil)) (nomark _)) (pss_one ps_never) pss_nil)
      (pss_one (ps_for PassesOwn.never rfl (pi_enumT rfl T.nenumerate (pa_cons (pe_fld (pv 0) rfl) pa_nil)) (pg_tup rfl (pgs_cons (pg_name (i := 3) sccheckstart.nd rfl (by first | exact Or.inl rfl | exact Or.inr rfl)) (pgs_cons (pg_name (i := 4) sccheckstart.nd rfl (by first | exact Or.inl rfl | exact Or.inr rfl)) pgs_nil))) (pss_one (ps_if (pt_not (pt_chain op_le op_le pe_int (pe_ix (r := rIx K) ix_seq (pv 1) (pv 3) (fun _ _ => rfl)) (pe_op op_mul (pv 4) (pv 2)))) (pss_one ps_never) pss_nil)))))), ?_⟩
    obtain ⟨jx, t, e1, e2⟩ := hJ
    refine ⟨_, rfl, _, _, rfl, rfl, _, rfl, ifF (decide_eq_false (by omega)) ?_⟩
    refine ⟨_, rfl, a, _, rfl, hS, _, rfl, j, _, jx, _, _, rfl, e1, T.lJars, T.nJars_sizes, lk1, t, _, rfl, .inr (SqT.of e2), rfl, _, rfl, iteNS (by rw [List.length_map, List.length_map, hst.len]) ?_⟩
    refine ⟨_, rfl, j, _, jx, _, _, rfl, e1, T.lJars, T.nJars_sizes, lk1, t, _, rfl, SqT.of e2, ?_⟩
    refine for_enumT (K := K) (a := t) (xs := vi caps) (fun i σ H' => ∃ u v : Option V, σ = [some (.ref j), some (.ref a), some (.int p), u, v] ∧ Same H H') ⟨none, none, rfl, Same.refl _⟩ (fun i σ H' _ ⟨_, _, _, e⟩ => sameT e (SqT.of e2)) ?_ ?_
    · rintro i y N σ H' hi ⟨u, v, rfl, sm⟩ hN
      obtain ⟨z, hz, rfl⟩ := vi_get hi
      have lt : i < caps.length := (List.getElem?_eq_some_iff.mp hz).1
      have ez := at0_of hz
      have s2 : Same H (upd H' N (.tup [.int (i : Nat), .int z])) := sm.trans (same_new hN)
      refine ⟨N, _, rfl, SqT.of upd_same, rfl, _, _, rfl, _, _, rfl, rfl, ?_⟩
      have l2 : i < st.length := by rw [hst.len]; exact lt
      refine ⟨_, rfl, _, rfl, rix_any (sameA s2 hS) (vi_at l2) ⟨_, _, rfl, rfl, _, rfl, ifT (decide_eq_true (hst.lo i lt)) ?_⟩⟩
      refine ⟨_, rfl, _, rfl, _, _, rfl, rfl, .inr (mulP p1 p2), _, _, rfl, rfl, _, rfl, iteNS (by rw [← ez]; exact hst.hi i lt) ?_⟩
      exact ⟨_, _, rfl, s2⟩
    · rintro σ H' ⟨u, v, rfl, sm⟩
      exact hq _ sm
theorem okbehinddeed (T : Tx K mg) : FnOk P w K mg base CX0 1 T.abehinddeed T.dbehinddeed ["jars", "deed", "stand", "parts"] (spbehinddeed T) := by
  refine T.fbehinddeed.ok scbehinddeed (fun vs H Q E h => ?_) (fun cdv A outer s H vs Q E hr h => ?_)
  · obtain ⟨j, a, v, d, caps, st, p, rfl, _⟩ := h
    rfl
  · obtain ⟨j, a, v, d, caps, st, p, rfl, hJ, hD, ok, hS, p1, p2, hl, hq⟩ := h
    refine ⟨_, (pss_cons (ps_set (i := 4) scbehinddeed.nd rfl (by first | exact Or.inl rfl | exact Or.inr rfl) (pe_callTy call_list_of rfl T.nlist (by decide +kernel) (pa_cons (pv 2) pa_nil)))
      (pss_cons (ps_set (i := 5) scbehinddeed.nd rfl (by first | exact Or.inl rfl | exact Or.inr rfl) (pe_fld (pv 1) rfl))
      (pss_cons (ps_if (pt_val (pe_callB call_isi rfl T.nisinstance (by decide +kernel) (pa_cons (pv 1) (pa_cons (pe_glob (v := .ref T.cPut) rfl T.mPut rfl) pa_nil)))) (pss_cons (ps_asg (pe_callB (call_min2 rfl) rfl T.nmin (by decide +kernel) (pa_cons (pe_op op_add (pe_ix (r := rIxL K) ix_list (pv 2) (pv 5) (fun _ _ => rfl)) (pe_op op_mul (pe_fld (pv 1) rfl) (pv 3))) (pa_cons (pe_op op_mul (pe_ix (r := rIxT K) ix_tup (pe_fld (pv 0) rfl) (pv 5) (fun _ _ => rfl)) (pv 3)) pa_nil))) (pg_sub (pv 4) (pv 5) set_list))
      (pss_one (ps_ret (pv 4)))) pss_nil)
      (pss_cons (ps_if (pt_val (pe_callB call_isi rfl T.nisinstance (by decide +kernel) (pa_cons (pv 1) (pa_cons (pe_glob (v := .ref T.cDraw) rfl T.mDraw rfl) pa_nil)))) (pss_cons (ps_asg (pe_callB (call_max2 rfl) rfl T.nmax (by decide +kernel) (pa_cons (pe_op op_sub (pe_ix (r := rIxL K) ix_list (pv 2) (pv 5) (fun _ _ => rfl)) (pe_op op_mul (pe_fld (pv 1) rfl) (pv 3))) (pa_cons pe_int pa_nil))) (pg_sub (pv 4) (pv 5) set_list))
      (pss_one (ps_ret (pv 4)))) pss_nil)
      (pss_cons (ps_set (i := 6) scbehinddeed.nd rfl (by first | exact Or.inl rfl | exact Or.inr rfl) (pe_fld (pv 1) rfl))
      (pss_cons (ps_if (pt_val (pe_callB call_isi rfl T.nisinstance (by decide +kernel) (pa_cons (pv 1) (pa_cons (pe_glob (v := .ref T.cPour) rfl T.mPour rfl) pa_nil)))) (pss_cons (ps_set (i := 7) scbehinddeed.nd rfl (by first | exact Or.inl rfl | exact Or.inr rfl) (pe_callB (call_min2 rfl) rfl T.nmin (by decide +kernel) (pa_cons (pe_ix (r := rIxL K) ix_list (pv 2) (pv 5) (fun _ _ => rfl)) (pa_cons (pe_op op_sub (pe_op op_mul (pe_ix (r := rIxT K) ix_tup (pe_fld (pv 0) rfl) (pv 6) (fun _ _ => rfl)) (pv 3)) (pe_ix (r := rIxL K) ix_list (pv 2) (pv 6) (fun _ _ => rfl))) pa_nil))))
      (pss_cons (ps_asg (pe_op op_sub (pe_ix (r := rIxL K) ix_list (pv 2) (pv 5) (fun _ _ => rfl)) (pv 7)) (pg_sub (pv 4) (pv 5) set_list))
      (pss_cons (ps_asg (pe_op op_add (pe_ix (r := rIxL K) ix_list (pv 2) (pv 6) (fun _ _ => rfl)) (pv 7)) (pg_sub (pv 4) (pv 6) set_list))
      (pss_one (ps_ret (pv 4)))))) pss_nil)
      (pss_cons (ps_asg (pe_ix (r := rIxL K) ix_list (pv 2) (pv 6) (fun _ _ => rfl)) (pg_sub (pv 4) (pv 5) set_list))
      (pss_cons (ps_asg (pe_ix (r := rIxL K) ix_list (pv 2) (pv 5) (fun _ _ => rfl)) (pg_sub (pv 4) (pv 6) set_list))
      (pss_one (ps_ret (pv 4))))))))))), ?_⟩
    obtain ⟨q, dx, rfl, hp⟩ := deed_at hD
    have ha : d.fst < caps.length := by cases d <;> exact ok.1
    refine ⟨_, rfl, a, _, rfl, .inl hS, fun l hn => ?_⟩
    have s1 : Same H (upd H l (.lst (vi st))) := same_new hn
    have hp1 := s1 _ _ hp
    have hS1 := s1.seq hS
    obtain ⟨jx, t, e1, e2⟩ := hJ.same s1
    have ty := ty_deed hp1
    refine ⟨_, rfl, q, _, dx, _, _, rfl, hp1, cls_cls T d, no_a T d, fs_a d, ?_⟩
    refine ⟨_, rfl, .ref q, .ref T.cPut, _, _, _, rfl, .own _, ty, is_put T d, _, rfl, ?_⟩
    have l2 : d.fst < st.length := by rw [hl]; exact ha
    cases d with
    | put x k =>
      refine ifT rfl ?_
      refine ⟨_, rfl, _, rfl, a, _, _, _, rfl, rfl, hS1, vi_at l2, _, rfl, q, _, dx, _, _, rfl, hp1, T.lPut, T.nPut_k, lk2 (by decide +kernel), _, rfl, _, _, rfl, rfl, .inr (mulP p1 p2), _, _, rfl, rfl, ?_⟩
      refine ⟨_, rfl, j, _, jx, _, _, rfl, e1, T.lJars, T.nJars_sizes, lk1, _, rfl, t, _, _, _, rfl, rfl, SqT.of e2, vi_at ha, _, rfl, _, _, rfl, rfl, .inr (mulP p1 p2), _, _, rfl, ?_⟩
      refine ⟨_, rfl, _, rfl, l, _, _, x, rfl, rfl, upd_same, ixN_nat (by rw [List.length_map]; exact l2), _, rfl, ?_⟩
      refine hq _ l hn ?_ (same_mut s1 hn)
      rw [upd_same, vi_set]
      rfl
    | draw x k =>
      refine ifF rfl ⟨_, rfl, .ref q, .ref T.cDraw, _, _, _, rfl, .own _, ty, T.iDraw_Draw, _, rfl, ifT rfl ?_⟩
      refine ⟨_, rfl, _, rfl, a, _, _, _, rfl, rfl, hS1, vi_at l2, _, rfl, q, _, dx, _, _, rfl, hp1, T.lDraw, T.nDraw_k, lk2 (by decide +kernel), _, rfl, _, _, rfl, rfl, .inr (mulP p1 p2), _, _, rfl, rfl, ?_⟩
      refine ⟨_, _, rfl, ?_⟩
      refine ⟨_, rfl, _, rfl, l, _, _, x, rfl, rfl, upd_same, ixN_nat (by rw [List.length_map]; exact l2), _, rfl, ?_⟩
      refine hq _ l hn ?_ (same_mut s1 hn)
      rw [upd_same, vi_set]
      rfl
    | pour x b =>
      have lb : b < st.length := by rw [hl]; exact ok.2.1
      refine ifF rfl ⟨_, rfl, .ref q, .ref T.cDraw, _, _, _, rfl, .own _, ty, T.iPour_Draw, _, rfl, ifF rfl ?_⟩
      refine ⟨_, rfl, q, _, dx, _, _, rfl, hp1, T.lPour, T.nPour_b, lk2 (by decide +kernel), ?_⟩
      refine ⟨_, rfl, .ref q, .ref T.cPour, _, _, _, rfl, .own _, ty, T.iPour_Pour, _, rfl, ifT rfl ?_⟩
      refine ⟨_, rfl, _, rfl, a, _, _, _, rfl, rfl, hS1, vi_at l2, _, rfl, j, _, jx, _, _, rfl, e1, T.lJars, T.nJars_sizes, lk1, ?_⟩
      refine ⟨_, rfl, t, _, _, _, rfl, rfl, SqT.of e2, vi_at ok.2.1, _, rfl, _, _, rfl, rfl, .inr (mulP p1 p2), _, rfl, _, rfl, a, _, _, _, rfl, rfl, hS1, vi_at lb, _, _, rfl, rfl, _, _, rfl, ?_⟩
      refine ⟨_, rfl, _, rfl, a, _, _, _, rfl, rfl, hS1, vi_at l2, _, rfl, _, _, rfl, rfl, _, rfl, _, rfl, l, _, _, x, rfl, rfl, upd_same, ixN_nat (by rw [List.length_map]; exact l2), ?_⟩
      have hS2 := (same_mut (o := .lst ((vi st).set x (.int (at0 st x - (if at0 caps b * p - at0 st b < at0 st x then at0 caps b * p - at0 st b else at0 st x))))) s1 hn).seq hS
      refine ⟨_, rfl, _, rfl, a, _, _, _, rfl, rfl, hS2, vi_at lb, _, rfl, _, _, rfl, rfl, _, rfl, _, rfl, l, _, _, b, rfl, rfl, upd_same, ixN_nat (by rw [List.length_set, List.length_map]; exact lb), _, rfl, ?_⟩
      refine hq _ l hn ?_ (same_mut (same_mut s1 hn) hn)
      rw [upd_same, vi_set, vi_set]
      rfl
    | change x b =>
      have lb : b < st.length := by rw [hl]; exact ok.2.1
      refine ifF rfl ⟨_, rfl, .ref q, .ref T.cDraw, _, _, _, rfl, .own _, ty, T.iChange_Draw, _, rfl, ifF rfl ?_⟩
      refine ⟨_, rfl, q, _, dx, _, _, rfl, hp1, T.lChange, T.nChange_b, lk2 (by decide +kernel), ?_⟩
      refine ⟨_, rfl, .ref q, .ref T.cPour, _, _, _, rfl, .own _, ty, T.iChange_Pour, _, rfl, ifF rfl ?_⟩
      refine ⟨_, rfl, _, rfl, a, _, _, _, rfl, rfl, hS1, vi_at lb, _, rfl, _, rfl, l, _, _, x, rfl, rfl, upd_same, ixN_nat (by rw [List.length_map]; exact l2), ?_⟩
      have hS2 := (same_mut (o := .lst ((vi st).set x (.int (at0 st b)))) s1 hn).seq hS
      refine ⟨_, rfl, _, rfl, a, _, _, _, rfl, rfl, hS2, vi_at l2, _, rfl, _, rfl, l, _, _, b, rfl, rfl, upd_same, ixN_nat (by rw [List.length_set, List.length_map]; exact lb), _, rfl, ?_⟩
      refine hq _ l hn ?_ (same_mut (same_mut s1 hn) hn)
      rw [upd_same, vi_set, vi_set]
      rfl
theorem okbehindround (T : Tx K mg) : FnOk P w K mg base CX0 2 T.abehindround T.dbehindround ["row", "stand", "parts"] (spbehindround T) := by
  refine T.fbehindround.ok scbehindround (fun vs H Q E h => ?_) (fun cdv A outer s H vs Q E hr h => ?_)
  · obtain ⟨r, a, ds, caps, st, p, rfl, _⟩ := h
    rfl
  · obtain ⟨r, a, ds, caps, st, p, rfl, hR, ok, hS, p1, p2, hl, hq⟩ := h
    refine ⟨_, (pss_cons (ps_set (i := 3) scbehindround.nd rfl (by first | exact Or.inl rfl | exact Or.inr rfl) (pe_callTy call_list_of rfl T.nlist (by decide +kernel) (pa_cons (pv 1) pa_nil)))
      (pss_cons (ps_for PassesOwn.never rfl (pi_tup (pe_fld (pv 0) rfl)) (pg_name (i := 4) scbehindround.nd rfl (by first | exact Or.inl rfl | exact Or.inr rfl)) (pss_one (ps_set (i := 3) scbehindround.nd rfl (by first | exact Or.inl rfl | exact Or.inr rfl) (pe_call (okbehinddeed T) (hr.mono (by decide)) rfl T.gbehinddeed T.fbehinddeed.kp T.bbehinddeed .nil pass0 (pa_cons (pe_fld (pv 0) rfl) (pa_cons (pv 4) (pa_cons (pv 3) (pa_cons (pv 2) pa_nil))))))))
      (pss_one (ps_ret (pv 3))))), ?_⟩
    refine ⟨_, rfl, a, _, rfl, hS, fun l hn => ?_⟩
    have s1 : Same H (upd H l (.lst (vi st))) := same_new hn
    obtain ⟨rx, j, t, us, r1, r2, r3, r4⟩ := id hR
    refine ⟨_, rfl, r, _, rx, _, _, rfl, s1 _ _ r1, T.lRow, T.nRow_deeds, lk2 (by decide +kernel), t, rfl, ⟨_, SqT.of (s1 _ _ r3)⟩, ?_⟩
    refine for_tup (K := K) (a := t) (xs := us) (fun i σ H' => ∃ (m : Addr) (v : Option V), σ = [some (.ref r), some (.ref a), some (.int p), some (.ref m), v] ∧ H m = none ∧ H' m = some (.lst (vi (run caps p (ds.take i) st))) ∧ Same H H')
      ⟨l, none, rfl, hn, by rw [upd_same]; rfl, s1⟩ (fun i σ H' _ ⟨_, _, _, _, _, e⟩ => sameT e (SqT.of r3)) ?_ ?_
    · rintro i y σ H' hi ⟨m, v, rfl, hm, hm', sm⟩
      obtain ⟨d, hd, hv⟩ := r4.get hi
      refine ⟨_, rfl, r, _, rx, _, _, rfl, sm _ _ r1, T.lRow, T.nRow_jars, lk1, _, rfl, _, rfl, _, rfl, ?_⟩
      refine ⟨j, m, y, d, caps, _, p, rfl, r2.same sm, hv.same sm, ok d (List.mem_of_getElem? hd), SqL.of hm', p1, p2, ?_, fun H2 q q1 q2 s2 => ?_⟩
      · rw [run_len]
        exact hl
      · refine ⟨q, some y, rfl, sm.free q1, ?_, sm.trans s2⟩
        rw [q2, run_snoc hd]
    · rintro σ H' ⟨m, v, rfl, hm, hm', sm⟩
      refine ⟨_, rfl, hq _ m hm ?_ sm⟩
      rw [hm', r4.len, List.take_length]
end
end Kp

namespace Kp
open PySem PySem.Spec PyProof.Rows L2 KpR
def keyI (l : List Int) : List L2.Key := l.map Sum.inl
theorem key_vi (l : List Int) : (keyI l).map kV = vi l := by
  unfold keyI vi
  rw [List.map_map]
  rfl
theorem key_inj : ∀ {l m : List Int}, keyI l = keyI m → l = m
  | [], [], _ => rfl
  | [], _ :: _, h => by cases h
  | _ :: _, [], h => by cases h
  | a :: l, b :: m, h => by
    injection h with h1 h2
    injection h1 with h1
    rw [h1, key_inj h2]
def seenAt (f : List Int → List Int) (st : List Int) (m : Nat) : List (List L2.Key × V) := (List.range m).map fun i => (keyI (it f i st), V.int i)
theorem seen_succ {f : List Int → List Int} {st : List Int} {m : Nat} : seenAt f st (m + 1) = seenAt f st m ++ [(keyI (it f m st), V.int m)] := by
  unfold seenAt
  rw [List.range_succ, List.map_append]
  rfl
theorem seen_none {f : List Int → List Int} {st x : List Int} : ∀ {m : Nat}, (∀ i, i < m → it f i st ≠ x) → valV (seenAt f st m) (keyI x) = none := fun {m} h => by
  unfold valV seenAt
  rw [Option.map_eq_none_iff, List.find?_eq_none]
  intro y hy
  obtain ⟨i, hi, rfl⟩ := List.mem_map.mp hy
  have := h i (List.mem_range.mp hi)
  simpa using fun z => this (key_inj z)
theorem seen_some {f : List Int → List Int} {st : List Int} {j : Nat} : ∀ {m : Nat}, j < m → (∀ i k, i < k → k < m → it f i st ≠ it f k st) → valV (seenAt f st m) (keyI (it f j st)) = some (V.int j)
  | 0, hj, _ => absurd hj (Nat.not_lt_zero _)
  | m + 1, hj, h => by
    have no : valV (seenAt f st m) (keyI (it f m st)) = none := seen_none fun i hi => h i m hi (by omega)
    rw [seen_succ, valV_snoc _ _ _ _ no]
    by_cases e : j = m
    · subst e
      rw [if_pos rfl]
    · rw [if_neg (fun z => h j m (by omega) (by omega) (key_inj z)), seen_some (by omega) (fun i k h1 h2 => h i k h1 (by omega))]
theorem seen_put {f : List Int → List Int} {st : List Int} {m : Nat} (h : ∀ i, i < m → it f i st ≠ it f m st) : putK (seenAt f st m) (keyI (it f m st)) (V.int m) = seenAt f st (m + 1) := by
  unfold putK
  rw [valV_any, seen_none h, if_neg (by simp), seen_succ]
section
variable {K : PySem.W.Frag} {mg : Str → Option Value}
def spfate (T : Tx K mg) : Sp := fun vs H Q _ => ∃ (r a : Addr) (ds : List D) (caps st : List Int) (p : Int) (t n : Nat), vs = [.ref r, .ref a, .int p] ∧ RowAt T H r caps ds ∧ (∀ d ∈ ds, d.ok caps) ∧ H a = some (.tup (vi st)) ∧ 1 ≤ p ∧ p < 2 ^ 62 ∧ Stand caps p st ∧ Fate (run caps p ds) st t n ∧ t + n ≤ 20000 ∧
  ∀ (H' : Hp) (q : Addr), H q = none → H' q = some (.tup [.int t, .int n]) → Same H H' → Q (.ref q) H'
end
section
variable {P : Program} {w : World} {K : PySem.W.Frag} {mg : Str → Option Value} {base : Heap}
theorem okfate (T : Tx K mg) : FnOk P w K mg base CX0 3 T.afate T.dfate ["row", "start", "parts"] (spfate T) := by
  refine T.ffate.ok scfate (fun vs H Q E h => ?_) (fun cdv A outer s H vs Q E hr h => ?_)
  · obtain ⟨r, a, ds, caps, st, p, t, n, rfl, _⟩ := h
    rfl
  · obtain ⟨r, a, ds, caps, st, p, t, n, rfl, hR, ok, ha, p1, p2, hst, hF, hB, hq⟩ := h
    refine ⟨_, PSs.nox (pss_cons (ps_expr (pe_call (okcheckstart T) (hr.mono (by decide)) rfl T.gcheckstart T.fcheckstart.kp T.bcheckstart .nil pass0 (pa_cons (pe_fld (pv 0) rfl) (pa_cons (pv 1) (pa_cons (pv 2) pa_nil)))))
      (pss_cons (ps_set (i := 3) scfate.nd rfl (by first | exact Or.inl rfl | exact Or.inr rfl) (pe_callTy call_tuple_of rfl T.ntuple (by decide +kernel) (pa_cons (pv 1) pa_nil)))
      (pss_cons (ps_set (i := 4) scfate.nd rfl (by first | exact Or.inl rfl | exact Or.inr rfl) (pe_dispT (hu_of hr) (pv 3) pe_int))
      (pss_cons (ps_for PassesOwn.never rfl (pi_range2 rfl T.nrange (pa_cons pe_int (pa_cons (pe_op op_add (pe_glob (v := .int 20000) rfl T.cMOSTROUNDS ⟨_, rfl⟩) pe_int) pa_nil))) (pg_name (i := 5) scfate.nd rfl (by first | exact Or.inl rfl | exact Or.inr rfl)) (pss_cons (ps_set (i := 3) scfate.nd rfl (by first | exact Or.inl rfl | exact Or.inr rfl) (pe_callTy call_tuple_of rfl T.ntuple (by decide +kernel) (pa_cons (pe_call (okbehindround T) (hr.mono (by decide)) rfl T.gbehindround T.fbehindround.kp T.bbehindround .nil pass0 (pa_cons (pv 0) (pa_cons (pv 3) (pa_cons (pv 2) pa_nil)))) pa_nil)))
      (pss_cons (ps_if (pt_cmp (pc_din (hu_of hr) (pv 3) (pv 4)) (by rfl)) (pss_one (ps_ret (pe_tup (pa_cons (pe_dget (hu_of hr) (pv 4) (pv 3) (fun _ _ => rfl)) (pa_cons (pe_op op_sub (pv 5) (pe_dget (hu_of hr) (pv 4) (pv 3) (fun _ _ => rfl))) pa_nil))))) pss_nil)
      (pss_one (ps_dput (hu_of hr) (pv 4) (pv 3) (pv 5) rfl)))))
      (pss_one ps_never))))), ?_⟩
    obtain ⟨rx, j, tt, us, r1, r2, r3, r4⟩ := id hR
    have n1 := hF.pos
    refine ⟨_, rfl, r, _, rx, _, _, rfl, r1, T.lRow, T.nRow_jars, lk1, _, rfl, _, rfl, j, a, caps, st, p, rfl, r2, .inr (SqT.of ha), p1, p2, hst, fun H1 s1 => ?_⟩
    have ha1 := s1 _ _ ha
    refine ⟨_, rfl, a, _, rfl, .inr ⟨SqT.of ha1, ?_⟩⟩
    refine fun D hD => ⟨_, rfl, upd_same, a, keyI st, rfl, (by rw [key_vi]; exact same_new hD _ _ ha1), ?_⟩
    have s2 : Same H (upd (upd H1 D (.dT [])) D (.dT [(keyI st, .int 0)])) := s1.trans (same_mut (same_new hD) hD)
    have d2 : (upd (upd H1 D (.dT [])) D (.dT [(keyI st, .int 0)])) D = some (.dT (seenAt (run caps p ds) st 1)) := upd_same
    have HD : H D = none := s1.free hD
    generalize upd (upd H1 D (.dT [])) D (.dT [(keyI st, V.int 0)]) = H2 at s2 d2 ⊢
    refine ⟨_, _, rfl, rfl, _, _, rfl, ⟨by omega, by omega, by omega, by omega⟩, ?_⟩
    show ∃ W, _
    refine for_range (lo := 1) (n := ((20000 : Int) + 1 - 1).toNat) (fun k σ H' => ∃ (b : Addr) (v : Option V), σ = [some (.ref r), some (.ref a), some (.int p), some (.ref b), some (.ref D), v] ∧ k < t + n ∧ H' b = some (.tup (vi (it (run caps p ds) k st))) ∧ H' D = some (.dT (seenAt (run caps p ds) st (k + 1))) ∧ Same H H') ⟨a, none, rfl, by omega, s2 _ _ ha, d2, s2⟩ ?_ ?_
    · rintro k σ H' hk ⟨b, v, rfl, kt, hb, hd, sm⟩
      have Lk : (it (run caps p ds) k st).length = caps.length := by rw [← runs_it, runs_len, hst.len]
      refine ⟨_, rfl, _, rfl, _, rfl, r, b, ds, caps, _, p, rfl, hR.same sm, ok, .inr (SqT.of hb), p1, p2, Lk, fun H3 q q0 hq3 s3 => ?_⟩
      refine ⟨q, _, rfl, .inl ⟨SqL.of hq3, fun b2 hb2 => ?_⟩⟩
      have s4 := s3.trans (same_new (o := .tup (vi (run caps p ds (it (run caps p ds) k st)))) hb2)
      have h4 : (upd H3 b2 (.tup (vi (run caps p ds (it (run caps p ds) k st))))) b2 = some (.tup ((keyI (it (run caps p ds) (k + 1) st)).map kV)) := by rw [key_vi]; exact upd_same
      generalize upd H3 b2 _ = H4 at s4 h4 ⊢
      have d4 := s4 _ _ hd
      have g := DGet.t d4 h4
      refine ⟨_, rfl, _, rfl, D, _, rfl, g, _, rfl, ?_⟩
      by_cases e : k + 1 = t + n
      · have eq : it (run caps p ds) (k + 1) st = it (run caps p ds) t st := by rw [e]; exact hF.ring
        have v1 : valV (seenAt (run caps p ds) st (k + 1)) (keyI (it (run caps p ds) (k + 1) st)) = some (V.int t) := by
          rw [eq]
          exact seen_some (by omega) fun i k2 h1 h2 => hF.dist i k2 h1 (by omega)
        rw [v1] at g ⊢
        refine ifT rfl ?_
        refine ⟨_, rfl, _, rfl, D, _, rfl, g, _, rfl, _, rfl, _, rfl, D, _, rfl, g, _, _, rfl, rfl, (by show 2 ≤ sizeLine; decide), fun q5 hq5 => ?_⟩
        have s5 := same_new (o := .tup [V.int t, V.int (1 + (k : Int) - (t : Int))]) hq5
        refine hq _ q5 ((sm.trans s4).free hq5) ?_ ((sm.trans s4).trans s5)
        rw [show (n : Int) = 1 + (k : Int) - (t : Int) by omega]
        exact upd_same
      · have ne : ∀ i, i < k + 1 → it (run caps p ds) i st ≠ it (run caps p ds) (k + 1) st := fun i hi => hF.dist i (k + 1) hi (by omega)
        rw [seen_none ne]
        refine ifF rfl ?_
        refine ⟨_, rfl, _, rfl, _, rfl, D, _, rfl, DPut.t d4 h4 (Nat.lt_of_le_of_lt (by unfold seenAt; rw [List.length_map, List.length_range]; omega : _ ≤ 20001) (by decide)), ?_⟩
        refine ⟨b2, _, rfl, by omega, ?_, ?_, same_mut (sm.trans s4) HD⟩
        · have n : b2 ≠ D := fun z => by rw [z, d4] at h4; cases h4
          rw [key_vi] at h4
          rw [upd_ne n]
          exact h4
        · have ec : (1 : Int) + (k : Int) = ((k + 1 : Nat) : Int) := by omega
          rw [upd_same, ec, seen_put ne]
    · rintro σ H' ⟨b, v, rfl, kt, _⟩
      have : ((20000 : Int) + 1 - 1).toNat = 20000 := by decide
      omega
end
end Kp

namespace Kp
open PySem PySem.Spec PyProof.Rows L2 KpR
def D.word : D → Str
  | .pour _ _ => "pour"
  | .put _ _ => "put"
  | .draw _ _ => "draw"
  | .change _ _ => "change"
def D.last : D → Int
  | .pour _ b => b
  | .put _ k => k
  | .draw _ k => k
  | .change _ b => b
def FactAt (H : Hp) (v : V) (d : D) : Prop := ∃ t, v = .ref t ∧ H t = some (.tup [.str d.word, .int d.fst, .int d.last])
theorem FactAt.same {H H' : Hp} {v : V} {d : D} (e : Same H H') (h : FactAt H v d) : FactAt H' v d := by
  obtain ⟨t, rfl, h⟩ := h
  exact ⟨t, rfl, e _ _ h⟩
theorem FactAt.fr {w : Addr} {H H' : Hp} {u : HO} {v : V} {d : D} (e : Fr w H H') (hw : H w = some u) (hb : Blank u) (h : FactAt H v d) : FactAt H' v d := by
  obtain ⟨t, rfl, h⟩ := h
  exact ⟨t, rfl, fr_no e hw hb h nbT⟩
theorem made_same {H H' : Hp} {x dx : Addr} {o1 o2 : HO} (hx : H x = none) (hdx : H dx = none) (fr : Fr x (upd (upd H dx o1) x o2) H') : Same H H' := fun b o e => by
  have n1 : b ≠ x := ne_of_none e hx
  refine fr b o n1 ?_
  rw [upd_ne n1, upd_ne (ne_of_none e hdx)]
  exact e
/-- a well out of which c numbers have been drawn -/
def WellAt (n : Nat) (H : Hp) (w : Addr) : Prop := ∃ x y z : Int, H w = some (.lst [.int x, .int y, .int z]) ∧ 0 ≤ y ∧ y ≤ 2147483629 ∧ 0 ≤ z ∧ z ≤ n
theorem WellAt.mono {n m : Nat} {H : Hp} {w : Addr} (h : WellAt n H w) (k : n ≤ m) : WellAt m H w := by
  obtain ⟨x, y, z, q, r1, r2, r3, r4⟩ := h
  exact ⟨x, y, z, q, r1, r2, r3, by omega⟩
theorem WellAt.ex {n : Nat} {H : Hp} {w : Addr} (h : WellAt n H w) : ∃ u, H w = some u ∧ Blank u := by
  obtain ⟨a, b, c, q, _⟩ := h
  exact ⟨_, q, bl_l⟩
theorem WellAt.new {n : Nat} {H : Hp} {w p : Addr} {o : HO} (h : WellAt n H w) (e : H p = none) : WellAt n (upd H p o) w := by
  obtain ⟨a, b, c, q, r⟩ := h
  exact ⟨a, b, c, (same_new e) _ _ q, r⟩
theorem WellAt.ne {n : Nat} {H : Hp} {w p : Addr} (h : WellAt n H w) (e : H p = none) : p ≠ w := fun z => by
  obtain ⟨a, b, c, q, r⟩ := h
  rw [← z, e] at q
  cases q
theorem WellAt.mut {n : Nat} {H : Hp} {w p : Addr} {o : HO} (h : WellAt n H w) (e : p ≠ w) : WellAt n (upd H p o) w := by
  obtain ⟨a, b, c, q, r⟩ := h
  exact ⟨a, b, c, by rw [upd_ne e.symm]; exact q, r⟩
theorem WellAt.same {n : Nat} {H H' : Hp} {w : Addr} (h : WellAt n H w) (e : Same H H') : WellAt n H' w := by
  obtain ⟨a, b, c, q, r⟩ := h
  exact ⟨a, b, c, e _ _ q, r⟩
section
variable {K : PySem.W.Frag} {mg : Str → Option Value}
def spLwell (T : Tx K mg) : Sp := fun vs H Q _ => ∃ n : Int, vs = [.int n] ∧ ∀ (H' : Hp) (p : Addr), H p = none → WellAt 0 H' p → Same H H' → Q (.ref p) H'
def spLdraw (T : Tx K mg) : Sp := fun vs H Q _ => ∃ (w : Addr) (m : Int) (n : Nat), vs = [.ref w, .int m] ∧ WellAt n H w ∧ n ≤ 10000 ∧ 1 ≤ m ∧ m < 2 ^ 100 ∧ ∀ (H' : Hp) (v : Nat), (v : Int) < m → WellAt (n + 1) H' w → Fr w H H' → Q (.int v) H'
def spLof (T : Tx K mg) : Sp := fun vs H Q _ => ∃ (w a : Addr) (l : List Int) (n : Nat), vs = [.ref w, .ref a] ∧ WellAt n H w ∧ n ≤ 10000 ∧ H a = some (.lst (vi l)) ∧ a ≠ w ∧ 1 ≤ l.length ∧ l.length ≤ 20 ∧ ∀ (H' : Hp) (x : Int), x ∈ l → WellAt (n + 1) H' w → Fr w H H' → Q (.int x) H'
def spLdeedmade (T : Tx K mg) : Sp := fun vs H Q _ => ∃ d : D, vs = [.str d.word, .int d.fst, .int d.last] ∧ ∀ (H' : Hp) (p : Addr), H p = none → DeedAt T H' (.ref p) d → Same H H' → Q (.ref p) H'
def spLrow (T : Tx K mg) : Sp := fun vs H Q _ => ∃ (c f : Addr) (caps : List Int) (ts : List V) (ds : List D), vs = [.ref c, .ref f] ∧ H c = some (.tup (vi caps)) ∧ Caps caps ∧ H f = some (.lst ts) ∧ A2 (FactAt H) ts ds ∧ ds.length ≤ 20 ∧ (∀ d ∈ ds, d.ok caps) ∧
  ∀ (H' : Hp) (r : Addr), H r = none → RowAt T H' r caps ds → Same H H' → Q (.ref r) H'
def spLonce (T : Tx K mg) : Sp := fun vs H Q _ => ∃ (c f a : Addr) (caps st : List Int) (ts : List V) (ds : List D) (p : Int), vs = [.ref c, .ref f, .ref a, .int p] ∧ H c = some (.tup (vi caps)) ∧ H f = some (.lst ts) ∧ A2 (FactAt H) ts ds ∧ (∀ d ∈ ds, d.ok caps) ∧ H a = some (.tup (vi st)) ∧ st.length = caps.length ∧ 1 ≤ p ∧ p < 2 ^ 62 ∧
  ∀ (H' : Hp) (r : Addr), H r = none → H' r = some (.tup (vi (run caps p ds st))) → Same H H' → Q (.ref r) H'
def spLgreat (T : Tx K mg) : Sp := fun vs H Q _ => ∃ (w : Addr) (n : Nat), vs = [.ref w] ∧ WellAt n H w ∧ n ≤ 9999 ∧ ∀ (H' : Hp) (v : Nat), (v : Int) < 1000000000000 → WellAt (n + 2) H' w → Fr w H H' → Q (.int v) H'
def spLover (T : Tx K mg) : Sp := fun vs H Q _ => ∃ a d : Int, vs = [.int a, .int d] ∧ 1 ≤ d ∧ d < 2 ^ 100 ∧ Q (.int (over a d)) H
def spLcellat (T : Tx K mg) : Sp := fun vs H Q _ => ∃ (a : Addr) (ns : List Int) (k : Nat), vs = [.ref a, .int k] ∧ SqL K H a (vi ns) ∧ ∀ n : Int, Q (.int n) H
end
section
variable {P : Program} {w : World} {K : PySem.W.Frag} {mg : Str → Option Value} {base : Heap}
theorem okLcellat (T : Tx K mg) : FnOk P w K mg base CX0 1 T.aLcellat T.dLcellat ["_law_script", "_law_k"] (spLcellat T) := by
  refine T.fLcellat.ok scLcellat (fun vs H Q E h => ?_) (fun cdv A outer s H vs Q E hr h => ?_)
  · obtain ⟨a, ns, k, rfl, _⟩ := h
    rfl
  · obtain ⟨a, ns, k, rfl, hS, hq⟩ := h
    refine ⟨_, (pss_cons (ps_if (pt_cmpR op_lt (pv 1) (pe_callB call_len_seq rfl T.nlen PySem.boot_len (pa_cons (pv 0) pa_nil)) (nomark _)) (pss_one (ps_ret (pe_ix (r := rIxL K) ix_list (pv 0) (pv 1) (fun _ _ => rfl)))) pss_nil)
      (pss_one (ps_ret pe_int))), ?_⟩
    refine ⟨_, rfl, _, rfl, a, _, rfl, .inl hS, _, _, rfl, rfl, _, rfl, ifD (fun g => ?_) (fun _ => hq 0)⟩
    rw [List.length_map] at g
    exact ⟨_, rfl, _, rfl, a, _, _, _, rfl, rfl, hS, vi_at (by omega), hq _⟩
theorem okLwell (T : Tx K mg) : FnOk P w K mg base CX0 1 T.aLwell T.dLwell ["_law_cell"] (spLwell T) := by
  refine T.fLwell.ok scLwell (fun vs H Q E h => ?_) (fun cdv A outer s H vs Q E hr h => ?_)
  · obtain ⟨n, rfl, _⟩ := h
    rfl
  · obtain ⟨n, rfl, hq⟩ := h
    refine ⟨_, (pss_one (ps_ret (pe_lst (pa_cons (pe_op op_mul (pv 0) (pe_callTy call_int1 rfl T.nint (by decide +kernel) (pa_cons (pe_cmpR op_ge (pv 0) (pe_op op_pow pe_int pe_int) (nomark _)) pa_nil))) (pa_cons (pe_op op_mod (pv 0) pe_int) (pa_cons pe_int pa_nil)))))), ?_⟩
    refine ⟨_, rfl, _, rfl, _, _, rfl, rfl, ⟨by decide, by decide, by decide⟩, _, _, rfl, rfl, .inr ⟨_, rfl, _, _, rfl, rfl, .inr ?_, _, rfl, _, _, rfl, rfl, (by show (0 : Int) < 2147483629; decide), (by show 3 ≤ sizeLine; decide), fun p hp => hq _ p hp ⟨_, _, _, upd_same, Int.emod_nonneg _ (by decide), Int.le_of_lt (Int.emod_lt_of_pos _ (by decide)), by decide, by decide⟩ (same_new hp)⟩⟩
    split <;> exact ⟨by decide, by decide⟩
theorem okLdraw (T : Tx K mg) : FnOk P w K mg base CX0 1 T.aLdraw T.dLdraw ["_law_well_here", "_law_size"] (spLdraw T) := by
  refine T.fLdraw.ok scLdraw (fun vs H Q E h => ?_) (fun cdv A outer s H vs Q E hr h => ?_)
  · obtain ⟨u, m, n, rfl, _⟩ := h
    rfl
  · obtain ⟨u, m, n, rfl, ⟨a, b, c, hw, b0, b1, c0, c1⟩, n1, m1, m2, hq⟩ := h
    refine ⟨_, (pss_cons (ps_if (pt_cmpR op_gt (pe_ix (r := rIxL K) ix_list (pv 0) pe_int (fun _ _ => rfl)) pe_int (nomark _)) (pss_cons (ps_set (i := 2) scLdraw.nd rfl (by first | exact Or.inl rfl | exact Or.inr rfl) (pe_op op_mod (pe_ix (r := rIxL K) ix_list (pv 0) pe_int (fun _ _ => rfl)) (pv 1)))
      (pss_cons (ps_asg (pe_op op_fdivW (pe_ix (r := rIxL K) ix_list (pv 0) pe_int (fun _ _ => rfl)) (pv 1)) (pg_sub (pv 0) pe_int set_list))
      (pss_one (ps_ret (pv 2))))) pss_nil)
      (pss_cons (ps_asg (pe_op op_add (pe_ix (r := rIxL K) ix_list (pv 0) pe_int (fun _ _ => rfl)) pe_int) (pg_sub (pv 0) pe_int set_list))
      (pss_cons (ps_set (i := 3) scLdraw.nd rfl (by first | exact Or.inl rfl | exact Or.inr rfl) (pe_op op_mod (pe_op op_pow (pe_op op_add (pe_op op_add (pe_ix (r := rIxL K) ix_list (pv 0) pe_int (fun _ _ => rfl)) (pe_op op_mul pe_int (pe_ix (r := rIxL K) ix_list (pv 0) pe_int (fun _ _ => rfl)))) pe_int) pe_int) pe_int))
      (pss_cons (ps_set (i := 3) scLdraw.nd rfl (by first | exact Or.inl rfl | exact Or.inr rfl) (pe_op op_mod (pe_op op_add (pe_op op_fdivW (pv 3) pe_int) (pe_op op_mul (pv 3) (pe_op op_add (pe_ix (r := rIxL K) ix_list (pv 0) pe_int (fun _ _ => rfl)) pe_int))) pe_int))
      (pss_cons (ps_set (i := 3) scLdraw.nd rfl (by first | exact Or.inl rfl | exact Or.inr rfl) (pe_op op_mod (pe_op op_mul (pv 3) (pe_op op_add (pe_op op_fdivW (pv 3) pe_int) pe_int)) pe_int))
      (pss_one (ps_ret (pe_op op_mod (pe_op op_fdivW (pv 3) pe_int) (pv 1))))))))), ?_⟩
    have wd : CDivW a m := wide_div (b := 100) (by omega) (by omega) (by decide) (by decide)
    have back : ∀ (x : Int) (H' : Hp), WellAt (n + 1) H' u → Fr u H H' → Q (.int (x % m)) H' := fun x H' h1 h2 => by
      have q0 := Int.emod_nonneg x (show m ≠ 0 by omega)
      have q1 := Int.emod_lt_of_pos x (show 0 < m by omega)
      have e : x % m = ((x % m).toNat : Int) := by omega
      rw [e]
      exact hq H' _ (by omega) h1 h2
    refine ⟨_, rfl, u, _, _, _, rfl, rfl, SqL.of hw, rfl, _, _, rfl, rfl, _, rfl, ifD (fun _ => ?_) (fun _ => ?_)⟩
    · refine ⟨_, rfl, u, _, _, _, rfl, rfl, SqL.of hw, rfl, _, rfl, _, _, rfl, rfl, (by show 0 < m; omega), ?_⟩
      refine ⟨_, rfl, u, _, _, _, rfl, rfl, SqL.of hw, rfl, _, rfl, _, _, rfl, rfl, wd, _, rfl, u, _, _, 0, rfl, rfl, hw, rfl, _, rfl, ?_⟩
      exact back a _ ⟨_, _, _, upd_same, b0, b1, c0, by omega⟩ (fr_mut (Fr.refl _ _))
    · refine ⟨_, rfl, u, _, _, _, rfl, rfl, SqL.of hw, rfl, _, _, rfl, rfl, _, rfl, u, _, _, 2, rfl, rfl, hw, rfl, ?_⟩
      refine ⟨_, rfl, u, _, _, _, rfl, rfl, SqL.of upd_same, rfl, _, rfl, u, _, _, _, rfl, rfl, SqL.of upd_same, rfl, _, _, rfl, rfl, .inl ⟨by decide, by decide⟩, _, _, rfl, rfl, _, _, rfl, rfl, _, _, rfl, rfl, ⟨by decide, by decide, by omega⟩, _, _, rfl, rfl, (by show (0 : Int) < 2147483647; decide), ?_⟩
      refine ⟨_, rfl, _, _, rfl, rfl, ⟨by decide, by decide⟩, _, rfl, _, rfl, u, _, _, _, rfl, rfl, SqL.of upd_same, rfl, _, _, rfl, rfl, _, _, rfl, rfl, .inr ⟨by omega, by omega⟩, _, _, rfl, rfl, _, _, rfl, rfl, (by show (0 : Int) < 2147483587; decide), ?_⟩
      refine ⟨_, rfl, _, rfl, _, _, rfl, rfl, ⟨by decide, by decide⟩, _, _, rfl, rfl, _, _, rfl, rfl, ?_, _, _, rfl, rfl, (by show (0 : Int) < 2147483563; decide), ?_⟩
      · exact .inl ⟨Int.lt_of_lt_of_le (by decide) (Int.emod_nonneg _ (by decide)), Int.lt_trans (Int.emod_lt_of_pos _ (by decide)) (by decide)⟩
      refine ⟨_, rfl, _, _, rfl, rfl, ⟨by decide, by decide⟩, _, rfl, _, _, rfl, rfl, (by show 0 < m; omega), ?_⟩
      exact back _ _ ⟨_, _, _, upd_same, b0, b1, by omega, by omega⟩ (fr_mut (Fr.refl _ _))
theorem okLof (T : Tx K mg) : FnOk P w K mg base CX0 2 T.aLof T.dLof ["_law_well_here", "_law_some"] (spLof T) := by
  refine T.fLof.ok scLof (fun vs H Q E h => ?_) (fun cdv A outer s H vs Q E hr h => ?_)
  · obtain ⟨u, a, l, n, rfl, _⟩ := h
    rfl
  · obtain ⟨u, a, l, n, rfl, hw, n1, ha, au, l1, l20, hq⟩ := h
    refine ⟨_, (pss_one (ps_ret (pe_ix (r := rIxL K) ix_list (pv 1) (pe_call (okLdraw T) (hr.mono (by decide)) rfl T.gLdraw T.fLdraw.kp T.bLdraw .nil pass0 (pa_cons (pv 0) (pa_cons (pe_callB call_len_seq rfl T.nlen PySem.boot_len (pa_cons (pv 1) pa_nil)) pa_nil))) (fun _ _ => rfl)))), ?_⟩
    refine ⟨_, rfl, _, rfl, _, rfl, a, _, rfl, .inl (SqL.of ha), u, _, n, rfl, hw, n1, (by rw [List.length_map]; omega), (by rw [List.length_map]; omega), fun H1 v lv w1 f1 => ?_⟩
    rw [List.length_map] at lv
    have lv2 : v < l.length := by omega
    refine ⟨a, _, _, _, rfl, rfl, SqL.of (f1 _ _ au ha), vi_at lv2, hq H1 _ (at0_mem lv2) w1 f1⟩
theorem okLdeedmade (T : Tx K mg) : FnOk P w K mg base CX0 3 T.aLdeedmade T.dLdeedmade ["_law_word", "_law_a", "_law_last"] (spLdeedmade T) := by
  refine T.fLdeedmade.ok scLdeedmade (fun vs H Q E h => ?_) (fun cdv A outer s H vs Q E hr h => ?_)
  · obtain ⟨d, rfl, _⟩ := h
    rfl
  · obtain ⟨d, rfl, hq⟩ := h
    refine ⟨_, (pss_cons (ps_if (pt_cmpR op_eq (pv 0) pe_str (nomark _)) (pss_one (ps_ret (pe_make T.kPour (okPourInit T) (hr.mono (by decide)) rfl T.mPour T.bPourInit .nil pass0 (pa_cons (pv 1) (pa_cons (pv 2) pa_nil))))) pss_nil)
      (pss_cons (ps_if (pt_cmpR op_eq (pv 0) pe_str (nomark _)) (pss_one (ps_ret (pe_make T.kPut (okPutInit T) (hr.mono (by decide)) rfl T.mPut T.bPutInit .nil pass0 (pa_cons (pv 1) (pa_cons (pv 2) pa_nil))))) pss_nil)
      (pss_cons (ps_if (pt_cmpR op_eq (pv 0) pe_str (nomark _)) (pss_one (ps_ret (pe_make T.kDraw (okDrawInit T) (hr.mono (by decide)) rfl T.mDraw T.bDrawInit .nil pass0 (pa_cons (pv 1) (pa_cons (pv 2) pa_nil))))) pss_nil)
      (pss_one (ps_ret (pe_make T.kChange (okChangeInit T) (hr.mono (by decide)) rfl T.mChange T.bChangeInit .nil pass0 (pa_cons (pv 1) (pa_cons (pv 2) pa_nil)))))))), ?_⟩
    refine ⟨_, rfl, rfl, _, rfl, ?_⟩
    have fin : ∀ (x dx : Addr) (C : Addr) (fs : List (Str × V)) (H2 : Hp), H x = none → H dx = none → dx ≠ x → (H2 x = some (.ins C dx fs)) → Fr x (upd (upd H dx (.own x)) x (.ins C dx [])) H2 → (DeedAt T H2 (.ref x) d) → Q (.ref x) H2 := fun x dx C fs H2 hx hdx ne h2 fr hd => hq H2 x hx hd (made_same hx hdx fr)
    cases d with
    | pour a b =>
      refine ifT (show decide (V.str "pour" = V.str "pour") = true by decide +kernel) ⟨_, rfl, _, rfl, fun x dx hx hdx ne => ⟨x, dx, _, _, rfl, upd_same, fun H2 h2 fr => ⟨rfl, ?_⟩⟩⟩
      exact fin x dx _ _ H2 hx hdx ne h2 fr ⟨x, dx, rfl, h2⟩
    | put a k =>
      refine ifF (show decide (V.str "put" = V.str "pour") = false by decide +kernel) ⟨_, rfl, rfl, _, rfl, ifT (show decide (V.str "put" = V.str "put") = true by decide +kernel) ⟨_, rfl, _, rfl, fun x dx hx hdx ne => ⟨x, dx, _, _, rfl, upd_same, fun H2 h2 fr => ⟨rfl, ?_⟩⟩⟩⟩
      exact fin x dx _ _ H2 hx hdx ne h2 fr ⟨x, dx, rfl, h2⟩
    | draw a k =>
      refine ifF (show decide (V.str "draw" = V.str "pour") = false by decide +kernel) ⟨_, rfl, rfl, _, rfl, ifF (show decide (V.str "draw" = V.str "put") = false by decide +kernel) ⟨_, rfl, rfl, _, rfl, ifT (show decide (V.str "draw" = V.str "draw") = true by decide +kernel) ⟨_, rfl, _, rfl, fun x dx hx hdx ne => ⟨x, dx, _, _, rfl, upd_same, fun H2 h2 fr => ⟨rfl, ?_⟩⟩⟩⟩⟩
      exact fin x dx _ _ H2 hx hdx ne h2 fr ⟨x, dx, rfl, h2⟩
    | change a k =>
      refine ifF (show decide (V.str "change" = V.str "pour") = false by decide +kernel) ⟨_, rfl, rfl, _, rfl, ifF (show decide (V.str "change" = V.str "put") = false by decide +kernel) ⟨_, rfl, rfl, _, rfl, ifF (show decide (V.str "change" = V.str "draw") = false by decide +kernel) ⟨_, rfl, _, rfl, fun x dx hx hdx ne => ⟨x, dx, _, _, rfl, upd_same, fun H2 h2 fr => ⟨rfl, ?_⟩⟩⟩⟩⟩
      exact fin x dx _ _ H2 hx hdx ne h2 fr ⟨x, dx, rfl, h2⟩
theorem okLrow (T : Tx K mg) : FnOk P w K mg base CX0 5 T.aLrow T.dLrow ["_law_sizes", "_law_deeds"] (spLrow T) := by
  refine T.fLrow.ok scLrow (fun vs H Q E h => ?_) (fun cdv A outer s H vs Q E hr h => ?_)
  · obtain ⟨c, f, caps, ts, ds, rfl, _⟩ := h
    rfl
  · obtain ⟨c, f, caps, ts, ds, rfl, hc, hC, hf, hA, l20, ok, hq⟩ := h
    refine ⟨_, (pss_one (ps_ret (pe_make T.kRow (okRowInit T) (hr.mono (by decide)) rfl T.mRow T.bRowInit .nil pass0 (pa_cons (pe_make T.kJars (okJarsInit T) (hr.mono (by decide)) rfl T.mJars T.bJarsInit .nil pass0 (pa_cons (pv 0) pa_nil)) (pa_cons (pe_lc (own := [("_law_word", 2), ("_law_a", 3), ("_law_last", 4)]) (g := gTup K 3 (gCons (gName 2) (gCons (gName 3) (gCons (gName 4) gNil)))) rfl scLrow.nd (pi_list (pv 1)) (blkOk_by (own := [("_law_word", 2), ("_law_a", 3), ("_law_last", 4)]) (N := ["_law_sizes", "_law_deeds", "_law_word", "_law_a", "_law_last"]) (sc := defScope sLrow) (by decide +kernel)) (fun _ _ _ _ _ => (pg_tup rfl (pgs_cons (pg_name (i := 2) scLrow.nd rfl (by first | exact Or.inl rfl | exact Or.inr rfl)) (pgs_cons (pg_name (i := 3) scLrow.nd rfl (by first | exact Or.inl rfl | exact Or.inr rfl)) (pgs_cons (pg_name (i := 4) scLrow.nd rfl (by first | exact Or.inl rfl | exact Or.inr rfl)) pgs_nil))))) (fun _ _ _ _ _ => pts_nil) (fun _ _ _ _ _ => (pe_call (okLdeedmade T) (hr.mono (by decide)) rfl T.gLdeedmade T.fLdeedmade.kp T.bLdeedmade .nil pass0 (pa_cons (pv 2) (pa_cons (pv 3) (pa_cons (pv 4) pa_nil)))))) pa_nil))))), ?_⟩
    have vl := hA.len
    refine ⟨_, rfl, fun x dx hx hdx ne => ?_⟩
    have s1 : Same H (upd (upd H dx (.own x)) x (.ins T.cJars dx [])) := (same_new hdx).trans (same_new (by rw [upd_ne ne.symm]; exact hx))
    refine ⟨x, dx, c, caps, rfl, upd_same, s1 _ _ hc, hC, fun H1 hJ fr => ⟨rfl, ?_⟩⟩
    have s2 := made_same hx hdx fr
    refine ⟨_, rfl, f, rfl, ⟨_, SqL.of (s2 _ _ hf)⟩, fun D hD => ?_⟩
    refine lc_list (K := K) (a := f) (xs := ts) (fun i H' => ∃ us, H' D = some (.lst us) ∧ A2 (DeedAt T H') us (ds.take i) ∧ Same H1 H') ⟨[], upd_same, by simp [A2], same_new hD⟩ (fun i H' _ ⟨_, _, _, e⟩ => e.seq (SqL.of (s2 _ _ hf))) ?_ ?_
    · rintro i y H' hi ⟨us, k1, k2, sm⟩
      obtain ⟨d, hd, hy⟩ := hA.get hi
      obtain ⟨t, rfl, ht⟩ := hy.same (s2.trans sm)
      have ul := k2.len
      rw [List.length_take] at ul
      refine ⟨t, _, rfl, SqT.of ht, rfl, _, _, rfl, _, _, rfl, _, _, rfl, rfl, rfl, _, rfl, _, rfl, _, rfl, d, rfl, fun H2 q q0 hq2 s3 => ?_⟩
      have g := s3 _ _ k1
      have bl : Fr D H2 (upd H2 D (.lst (us ++ [V.ref q]))) := fr_mut (Fr.refl _ _)
      refine ⟨us, g, small1000 (by omega), us ++ [V.ref q], upd_same, ?_, same_mut (sm.trans s3) hD⟩
      rw [List.take_add_one, hd]
      exact A2.app (A2.mono (fun _ _ k => (k.same s3).fr bl g bl_l) k2) ⟨hq2.fr bl g bl_l, trivial⟩
    · rintro H3 ⟨us, k1, k2, sm⟩
      rw [vl, List.take_length] at k2
      refine fun x2 dx2 hx2 hdx2 ne2 => ?_
      have s3 : Same H3 (upd (upd H3 dx2 (.own x2)) x2 (.ins T.cRow dx2 [])) := (same_new hdx2).trans (same_new (by rw [upd_ne ne2.symm]; exact hx2))
      refine ⟨x2, dx2, x, D, caps, us, ds, rfl, upd_same, (hJ.same sm).same s3, s3 _ _ k1, A2.mono (fun _ _ k => k.same s3) k2, l20, ok, fun H5 hR fr5 => ⟨rfl, ?_⟩⟩
      exact hq H5 x2 ((s2.trans sm).free hx2) hR ((s2.trans sm).trans (made_same hx2 hdx2 fr5))
theorem okLgreat (T : Tx K mg) : FnOk P w K mg base CX0 2 T.aLgreat T.dLgreat ["_law_well_here"] (spLgreat T) := by
  refine T.fLgreat.ok scLgreat (fun vs H Q E h => ?_) (fun cdv A outer s H vs Q E hr h => ?_)
  · obtain ⟨u, n, rfl, _⟩ := h
    rfl
  · obtain ⟨u, n, rfl, hw, n1, hq⟩ := h
    refine ⟨_, (pss_one (ps_ret (pe_op op_add (pe_op op_mul (pe_call (okLdraw T) (hr.mono (by decide)) rfl T.gLdraw T.fLdraw.kp T.bLdraw .nil pass0 (pa_cons (pv 0) (pa_cons (pe_op op_pow pe_int pe_int) pa_nil))) (pe_op op_pow pe_int pe_int)) (pe_call (okLdraw T) (hr.mono (by decide)) rfl T.gLdraw T.fLdraw.kp T.bLdraw .nil pass0 (pa_cons (pv 0) (pa_cons (pe_op op_pow pe_int pe_int) pa_nil)))))), ?_⟩
    have e6 : (10 : Int) ^ (6 : Int).toNat = 1000000 := by decide
    refine ⟨_, rfl, _, _, rfl, rfl, ⟨by decide, by decide, by decide⟩, u, _, n, rfl, hw, by omega, by decide, by decide, fun H1 v1 l1 w1 f1 => ?_⟩
    refine ⟨_, _, rfl, rfl, ⟨by decide, by decide, by decide⟩, _, _, rfl, rfl, .inr ⟨by decide, by decide⟩, _, rfl, _, _, rfl, rfl, ⟨by decide, by decide, by decide⟩, u, _, n + 1, rfl, w1, by omega, by decide, by decide, fun H2 v2 l2 w2 f2 => ⟨_, _, rfl, rfl, ?_⟩⟩
    rw [e6] at l1 l2 ⊢
    have := hq H2 (v1 * 1000000 + v2) (by omega) w2 (f1.trans f2)
    rw [Int.natCast_add, Int.natCast_mul] at this
    exact this
theorem okLover (T : Tx K mg) : FnOk P w K mg base CX0 1 T.aLover T.dLover ["_law_number", "_law_by"] (spLover T) := by
  refine T.fLover.ok scLover (fun vs H Q E h => ?_) (fun cdv A outer s H vs Q E hr h => ?_)
  · obtain ⟨a, d, rfl, _⟩ := h
    rfl
  · obtain ⟨a, d, rfl, d1, d2, hq⟩ := h
    refine ⟨_, (pss_one (ps_ret (pe_op op_sub pe_int (pe_op op_fdivW (pe_op op_sub pe_int (pv 0)) (pv 1))))), ?_⟩
    exact ⟨_, rfl, _, _, rfl, rfl, _, rfl, _, _, rfl, rfl, wide_div (b := 100) (by omega) (by omega) (by decide) (by decide), _, _, rfl, rfl, hq⟩
end
end Kp

namespace Kp
open PySem PySem.Spec PyProof.Rows L2 KpR
theorem at_set {xs : List V} {b : Nat} {v : V} (h : b < xs.length) : atI (xs.set b v) (b : Int) = some v := atI_nat (by simp [h])
theorem min_swap {x y : Int} : (if y < x then y else x) = (if x < y then x else y) := by
  split <;> split <;> omega
section
variable {P : Program} {w : World} {K : PySem.W.Frag} {mg : Str → Option Value} {base : Heap}
theorem okLonce (T : Tx K mg) : FnOk P w K mg base CX0 1 T.aLonce T.dLonce ["_law_sizes", "_law_deeds", "_law_begun", "_law_shares"] (spLonce T) := by
  refine T.fLonce.ok scLonce (fun vs H Q E h => ?_) (fun cdv A outer s H vs Q E hr h => ?_)
  · obtain ⟨c, f, a, caps, st, ts, ds, p, rfl, _⟩ := h
    rfl
  · obtain ⟨c, f, a, caps, st, ts, ds, p, rfl, hc, hf, hA, ok, hS, hl, p1, p2, hq⟩ := h
    refine ⟨_, (pss_cons (ps_set (i := 4) scLonce.nd rfl (by first | exact Or.inl rfl | exact Or.inr rfl) (pe_callTy call_list_of rfl T.nlist (by decide +kernel) (pa_cons (pv 2) pa_nil)))
      (pss_cons (ps_for PassesOwn.never rfl (pi_list (pv 1)) (pg_tup rfl (pgs_cons (pg_name (i := 5) scLonce.nd rfl (by first | exact Or.inl rfl | exact Or.inr rfl)) (pgs_cons (pg_name (i := 6) scLonce.nd rfl (by first | exact Or.inl rfl | exact Or.inr rfl)) (pgs_cons (pg_name (i := 7) scLonce.nd rfl (by first | exact Or.inl rfl | exact Or.inr rfl)) pgs_nil)))) (pss_one (ps_if (pt_cmpR op_eq (pv 5) pe_str (nomark _)) (pss_cons (ps_set (i := 8) scLonce.nd rfl (by first | exact Or.inl rfl | exact Or.inr rfl) (pe_op op_add (pe_ix (r := rIxL K) ix_list (pv 4) (pv 6) (fun _ _ => rfl)) (pe_ix (r := rIxL K) ix_list (pv 4) (pv 7) (fun _ _ => rfl))))
      (pss_cons (ps_asg (pe_callB (call_min2 rfl) rfl T.nmin (by decide +kernel) (pa_cons (pe_op op_mul (pe_ix (r := rIxT K) ix_tup (pv 0) (pv 7) (fun _ _ => rfl)) (pv 3)) (pa_cons (pv 8) pa_nil))) (pg_sub (pv 4) (pv 7) set_list))
      (pss_one (ps_asg (pe_op op_sub (pv 8) (pe_ix (r := rIxL K) ix_list (pv 4) (pv 7) (fun _ _ => rfl))) (pg_sub (pv 4) (pv 6) set_list))))) (pss_one (ps_if (pt_cmpR op_eq (pv 5) pe_str (nomark _)) (pss_one (ps_asg (pe_callB (call_min2 rfl) rfl T.nmin (by decide +kernel) (pa_cons (pe_op op_mul (pe_ix (r := rIxT K) ix_tup (pv 0) (pv 6) (fun _ _ => rfl)) (pv 3)) (pa_cons (pe_op op_add (pe_ix (r := rIxL K) ix_list (pv 4) (pv 6) (fun _ _ => rfl)) (pe_op op_mul (pv 7) (pv 3))) pa_nil))) (pg_sub (pv 4) (pv 6) set_list))) (pss_one (ps_if (pt_cmpR op_eq (pv 5) pe_str (nomark _)) (pss_one (ps_asg (pe_callB (call_max2 rfl) rfl T.nmax (by decide +kernel) (pa_cons pe_int (pa_cons (pe_op op_sub (pe_ix (r := rIxL K) ix_list (pv 4) (pv 6) (fun _ _ => rfl)) (pe_op op_mul (pv 7) (pv 3))) pa_nil))) (pg_sub (pv 4) (pv 6) set_list))) (pss_one (ps_asg (pe_tup (pa_cons (pe_ix (r := rIxL K) ix_list (pv 4) (pv 7) (fun _ _ => rfl)) (pa_cons (pe_ix (r := rIxL K) ix_list (pv 4) (pv 6) (fun _ _ => rfl)) pa_nil))) (pg_tup rfl (pgs_cons (pg_sub (pv 4) (pv 6) set_list) (pgs_cons (pg_sub (pv 4) (pv 7) set_list) pgs_nil))))))))))))
      (pss_one (ps_ret (pe_callTy call_tuple_of rfl T.ntuple (by decide +kernel) (pa_cons (pv 4) pa_nil)))))), ?_⟩
    refine ⟨_, rfl, a, _, rfl, .inr (SqT.of hS), fun l hn => ?_⟩
    have fl : f ≠ l := ne_of_none hf hn
    have cl : c ≠ l := ne_of_none hc hn
    refine ⟨_, rfl, f, rfl, ⟨_, (same_new hn).seq (SqL.of hf)⟩, ?_⟩
    refine for_list (K := K) (a := f) (xs := ts) (fun i σ H' => ∃ v5 v6 v7 v8 : Option V, σ = [some (.ref c), some (.ref f), some (.ref a), some (.int p), some (.ref l), v5, v6, v7, v8] ∧ H' l = some (.lst (vi (run caps p (ds.take i) st))) ∧ Same H H')
      ⟨none, none, none, none, rfl, upd_same, same_new hn⟩ (fun i σ H' _ ⟨_, _, _, _, _, _, e⟩ => e.seq (SqL.of hf)) ?_ ?_
    · rintro i y σ H' hi ⟨v5, v6, v7, v8, rfl, k1, sm⟩
      obtain ⟨d, hd, hy⟩ := hA.get hi
      have okd := ok d (List.mem_of_getElem? hd)
      obtain ⟨t, rfl, ht⟩ := hy.same sm
      have hc1 : SqT K H' c (vi caps) := SqT.of (sm _ _ hc)
      have rs := run_snoc (caps := caps) (p := p) (st := st) hd
      have rl : (run caps p (ds.take i) st).length = caps.length := by rw [run_len, hl]
      rw [← stepW_act rl okd] at rs
      generalize run caps p (ds.take i) st = cu at k1 rs rl
      have ha : d.fst < caps.length := by cases d <;> exact okd.1
      have la : d.fst < cu.length := by omega
      refine ⟨t, _, rfl, SqT.of ht, rfl, _, _, rfl, _, _, rfl, _, _, rfl, rfl, _, rfl, rfl, _, rfl, ?_⟩
      rw [rs]
      cases d with
      | pour x b =>
        have lb : b < cu.length := by rw [rl]; exact okd.2.1
        refine ifT (show decide (V.str "pour" = V.str "pour") = true by decide +kernel) ?_
        refine ⟨_, rfl, _, rfl, l, _, _, _, rfl, rfl, SqL.of k1, vi_at la, _, rfl, _, rfl, l, _, _, _, rfl, rfl, SqL.of k1, vi_at lb, _, _, rfl, rfl, ?_⟩
        refine ⟨_, rfl, _, rfl, c, _, _, _, rfl, rfl, hc1, vi_at okd.2.1, _, rfl, _, _, rfl, rfl, .inr (mulP p1 p2), _, rfl, _, _, rfl, ?_⟩
        refine ⟨_, rfl, _, rfl, l, _, _, b, rfl, rfl, k1, ixN_nat (by rw [List.length_map]; exact lb), ?_⟩
        refine ⟨_, rfl, _, rfl, _, rfl, l, _, _, _, rfl, rfl, SqL.of upd_same, at_set (by rw [List.length_map]; exact lb), _, _, rfl, rfl, ?_⟩
        refine ⟨_, rfl, _, rfl, l, _, _, x, rfl, rfl, upd_same, ixN_nat (by rw [List.length_set, List.length_map]; exact la), ?_⟩
        refine ⟨_, _, _, _, rfl, ?_, same_mut (same_mut sm hn) hn⟩
        rw [upd_same, vi_set, vi_set]
        simp only [stepW]
        rw [at0_set lb, if_pos rfl, min_swap]
        rfl
      | put x k =>
        refine ifF (show decide (V.str "put" = V.str "pour") = false by decide +kernel) ⟨_, rfl, rfl, _, rfl, ifT (show decide (V.str "put" = V.str "put") = true by decide +kernel) ?_⟩
        refine ⟨_, rfl, _, rfl, c, _, _, _, rfl, rfl, hc1, vi_at ha, _, rfl, _, _, rfl, rfl, .inr (mulP p1 p2), ?_⟩
        refine ⟨_, rfl, _, rfl, l, _, _, _, rfl, rfl, SqL.of k1, vi_at la, _, rfl, _, rfl, _, _, rfl, rfl, .inr (mulP p1 p2), _, _, rfl, rfl, _, _, rfl, ?_⟩
        refine ⟨_, rfl, _, rfl, l, _, _, x, rfl, rfl, k1, ixN_nat (by rw [List.length_map]; exact la), ?_⟩
        refine ⟨_, _, _, _, rfl, ?_, same_mut sm hn⟩
        rw [upd_same, vi_set]
        rfl
      | draw x k =>
        refine ifF (show decide (V.str "draw" = V.str "pour") = false by decide +kernel) ⟨_, rfl, rfl, _, rfl, ifF (show decide (V.str "draw" = V.str "put") = false by decide +kernel) ⟨_, rfl, rfl, _, rfl, ifT (show decide (V.str "draw" = V.str "draw") = true by decide +kernel) ?_⟩⟩
        refine ⟨_, rfl, _, rfl, l, _, _, _, rfl, rfl, SqL.of k1, vi_at la, _, rfl, _, rfl, _, _, rfl, rfl, .inr (mulP p1 p2), _, _, rfl, rfl, _, _, rfl, ?_⟩
        refine ⟨_, rfl, _, rfl, l, _, _, x, rfl, rfl, k1, ixN_nat (by rw [List.length_map]; exact la), ?_⟩
        refine ⟨_, _, _, _, rfl, ?_, same_mut sm hn⟩
        rw [upd_same, vi_set]
        rfl
      | change x b =>
        have lb : b < cu.length := by rw [rl]; exact okd.2.1
        refine ifF (show decide (V.str "change" = V.str "pour") = false by decide +kernel) ⟨_, rfl, rfl, _, rfl, ifF (show decide (V.str "change" = V.str "put") = false by decide +kernel) ⟨_, rfl, rfl, _, rfl, ifF (show decide (V.str "change" = V.str "draw") = false by decide +kernel) ?_⟩⟩
        refine ⟨_, rfl, _, rfl, l, _, _, _, rfl, rfl, SqL.of k1, vi_at lb, _, rfl, _, rfl, l, _, _, _, rfl, rfl, SqL.of k1, vi_at la, (by show 2 ≤ sizeLine; decide), fun t2 ht2 => ?_⟩
        have lt2 : l ≠ t2 := fun z => by rw [← z, k1] at ht2; cases ht2
        refine ⟨t2, _, rfl, SqT.of upd_same, rfl, _, _, rfl, _, rfl, _, rfl, l, _, _, x, rfl, rfl, (by rw [upd_ne lt2]; exact k1), ixN_nat (by rw [List.length_map]; exact la), ?_⟩
        refine ⟨_, _, rfl, _, rfl, _, rfl, l, _, _, b, rfl, rfl, upd_same, ixN_nat (by rw [List.length_set, List.length_map]; exact lb), rfl, ?_⟩
        refine ⟨_, _, _, _, rfl, ?_, same_mut (same_mut (sm.trans (same_new ht2)) hn) hn⟩
        rw [upd_same, vi_set, vi_set]
        rfl
    · rintro σ H' ⟨v5, v6, v7, v8, rfl, k1, sm⟩
      rw [hA.len, List.take_length] at k1
      refine ⟨_, rfl, l, _, rfl, .inl ⟨SqL.of k1, fun t ht => ?_⟩⟩
      exact hq _ t (sm.free ht) upd_same (sm.trans (same_new ht))
end
end Kp

namespace Kp
open PySem PySem.Spec PyProof.Rows L2 KpR
section
variable {K : PySem.W.Frag} {mg : Str → Option Value}
def spLriseright (T : Tx K mg) : Sp := fun vs H Q _ => ∃ (u : Addr) (up : Bool) (n : Nat), vs = [.ref u, .bl up] ∧ WellAt n H u ∧ n ≤ 9000 ∧ ∀ H' : Hp, WellAt (n + 8) H' u → Fr u H H' → Q (.bl true) H'
theorem pick2I {x y : Int} {c : Bool} : atI [V.int x, V.int y] (if c = true then 1 else 0) = some (.int (if c = true then y else x)) := by cases c <;> rfl
def upDs (up : Bool) (l s : Int) : List D := if up = true then [.put 0 (l + s), .draw 0 l] else [.draw 0 (l + s), .put 0 l]
end
theorem rise_fate {S l s p x : Int} {up : Bool} (hp : 1 ≤ p) (l0 : 0 ≤ l) (lS : l ≤ S) (s1 : 1 ≤ s) (x0 : 0 ≤ x) (xS : x ≤ S * p) {aw : Int} (h : ((if up = true then S - l else l) * p - x) * (if up = true then 1 else -1) = aw) : Fate (run [S] p (upDs up l s)) [x] (tailAt aw (s * p)).toNat 1 := by
  cases up with
  | true =>
    have e : aw = (S - l) * p - x := by
      rw [← h, if_pos rfl, if_pos rfl]
      omega
    rw [e]
    exact up_fate hp l0 lS s1 x0
  | false =>
    have e : aw = x - l * p := by
      rw [← h, if_neg Bool.false_ne_true, if_neg Bool.false_ne_true]
      omega
    rw [e]
    exact down_fate hp l0 lS s1 x0 xS
theorem tail_three {a d : Int} : tailAt (a * 3) (d * 3) = tailAt a d := by
  unfold tailAt
  rw [over_three]
  by_cases c : a > 0
  · rw [if_pos c, if_pos (by omega)]
  · rw [if_neg c, if_neg (by omega)]
    by_cases e : a ≠ 0
    · rw [if_pos e, if_pos (by omega)]
    · rw [if_neg e, if_neg (by omega)]
theorem tail_pos {a d : Int} (hd : 0 < d) : 0 ≤ tailAt a d := by
  unfold tailAt
  split
  · exact over_pos hd (by omega)
  · split <;> omega
theorem tail_few {a d n : Int} (hd : 0 < d) (n1 : 1 ≤ n) (h : a ≤ n * d) : tailAt a d ≤ n := by
  unfold tailAt
  split
  · exact over_few hd h
  · split <;> omega
section
variable {P : Program} {w : World} {K : PySem.W.Frag} {mg : Str → Option Value} {base : Heap}
theorem kbFate (T : Tx K mg) : ∃ mv : List Value, KBn K T.dfate ["row", "start", "parts"] 2 ["parts"] (fun us ws => us ++ (ws ++ mv)) (fun vs zs => vs ++ (zs ++ [])) :=
  T.ffate.kbinds0 2 ["parts"] [] (fun vs mz zs => vs ++ (zs ++ mz)) (by simp) (by simp) (fun r1 r2 r3 => r1.append (r3.append r2))
    (fun Dd doc pm an cdv ct us mv ws h1 h2 h3 => match us, mv, ws, h1, h2, h3 with
      | [_, _], [], [_], _, _, _ => rfl)
theorem okLriseright (T : Tx K mg) : FnOk P w K mg base CX0 6 T.aLriseright T.dLriseright ["_law_well_here", "_law_is_up"] (spLriseright T) := by
  refine T.fLriseright.ok scLriseright (fun vs H Q E h => ?_) (fun cdv A outer s H vs Q E hr h => ?_)
  · obtain ⟨u, up, n, rfl, _⟩ := h
    rfl
  · obtain ⟨u, up, n, rfl, hw, n9, hq⟩ := h
    obtain ⟨mv, kb_parts⟩ := kbFate T
    refine ⟨_, (pss_cons (ps_set (i := 2) scLriseright.nd rfl (by first | exact Or.inl rfl | exact Or.inr rfl) (pe_op op_add pe_int (pe_op op_fdivW (pe_call (okLgreat T) (hr.mono (by decide)) rfl T.gLgreat T.fLgreat.kp T.bLgreat .nil pass0 (pa_cons (pv 0) pa_nil)) pe_int)))
      (pss_cons (ps_set (i := 3) scLriseright.nd rfl (by first | exact Or.inl rfl | exact Or.inr rfl) (pe_op op_add pe_int (pe_op op_fdivW (pv 2) (pe_op op_add pe_int (pe_call (okLdraw T) (hr.mono (by decide)) rfl T.gLdraw T.fLdraw.kp T.bLdraw .nil pass0 (pa_cons (pv 0) (pa_cons pe_int pa_nil)))))))
      (pss_cons (ps_set (i := 4) scLriseright.nd rfl (by first | exact Or.inl rfl | exact Or.inr rfl) (pe_op op_add pe_int (pe_call (okLdraw T) (hr.mono (by decide)) rfl T.gLdraw T.fLdraw.kp T.bLdraw .nil pass0 (pa_cons (pv 0) (pa_cons (pe_op op_add pe_int (pe_callB (call_min2 rfl) rfl T.nmin (by decide +kernel) (pa_cons (pe_op op_sub (pv 2) pe_int) (pa_cons (pe_op op_pow pe_int pe_int) pa_nil)))) pa_nil)))))
      (pss_cons (ps_set (i := 5) scLriseright.nd rfl (by first | exact Or.inl rfl | exact Or.inr rfl) (pe_lst (pa_cons (pe_tup (pa_cons pe_str (pa_cons pe_int (pa_cons (pe_op op_add (pv 4) (pv 3)) pa_nil)))) (pa_cons (pe_tup (pa_cons pe_str (pa_cons pe_int (pa_cons (pv 4) pa_nil)))) pa_nil))))
      (pss_cons (ps_set (i := 6) scLriseright.nd rfl (by first | exact Or.inl rfl | exact Or.inr rfl) (pe_op op_sub (pv 2) (pv 4)))
      (C8.pss_cut (ps_if (pt_not (pt_val (pv 1))) (pss_cons (ps_set (i := 5) scLriseright.nd rfl (by first | exact Or.inl rfl | exact Or.inr rfl) (pe_lst (pa_cons (pe_tup (pa_cons pe_str (pa_cons pe_int (pa_cons (pe_op op_add (pv 4) (pv 3)) pa_nil)))) (pa_cons (pe_tup (pa_cons pe_str (pa_cons pe_int (pa_cons (pv 4) pa_nil)))) pa_nil))))
      (pss_one (ps_set (i := 6) scLriseright.nd rfl (by first | exact Or.inl rfl | exact Or.inr rfl) (pv 4)))) pss_nil)
      (pss_cons (ps_set (i := 7) scLriseright.nd rfl (by first | exact Or.inl rfl | exact Or.inr rfl) (pe_op op_add pe_int (pe_call (okLdraw T) (hr.mono (by decide)) rfl T.gLdraw T.fLdraw.kp T.bLdraw .nil pass0 (pa_cons (pv 0) (pa_cons pe_int pa_nil)))))
      (pss_cons (ps_set (i := 8) scLriseright.nd rfl (by first | exact Or.inl rfl | exact Or.inr rfl) (pe_call (okLof T) (hr.mono (by decide)) rfl T.gLof T.fLof.kp T.bLof .nil pass0 (pa_cons (pv 0) (pa_cons (pe_lst (pa_cons (pe_op op_mul (pv 6) (pv 7)) (pa_cons pe_int (pa_cons (pe_op op_mul (pv 2) (pv 7)) (pa_cons (pe_op op_mod (pe_op op_add (pe_op op_mul (pe_call (okLgreat T) (hr.mono (by decide)) rfl T.gLgreat T.fLgreat.kp T.bLgreat .nil pass0 (pa_cons (pv 0) pa_nil)) (pv 7)) pe_int) (pe_op op_add (pe_op op_mul (pv 2) (pv 7)) pe_int)) pa_nil))))) pa_nil))))
      (pss_cons (ps_set (i := 9) scLriseright.nd rfl (by first | exact Or.inl rfl | exact Or.inr rfl) (pe_op op_mul (pe_op op_sub (pe_op op_mul (pv 6) (pv 7)) (pv 8)) (pe_ix (r := rIxL K) ix_list (pe_lst (pa_cons (pe_un un_neg pe_int) (pa_cons pe_int pa_nil))) (pe_callTy call_int1 rfl T.nint (by decide +kernel) (pa_cons (pv 1) pa_nil)) (fun _ _ => rfl))))
      (pss_cons (ps_set (i := 10) scLriseright.nd rfl (by first | exact Or.inl rfl | exact Or.inr rfl) (pe_callTy call_int1 rfl T.nint (by decide +kernel) (pa_cons (pe_cmpR op_ne (pv 9) pe_int (nomark _)) pa_nil)))
      (C8.pss_cut (ps_if (pt_cmpR op_gt (pv 9) pe_int (nomark _)) (pss_one (ps_set (i := 10) scLriseright.nd rfl (by first | exact Or.inl rfl | exact Or.inr rfl) (pe_call (okLover T) (hr.mono (by decide)) rfl T.gLover T.fLover.kp T.bLover .nil pass0 (pa_cons (pv 9) (pa_cons (pe_op op_mul (pv 3) (pv 7)) pa_nil))))) pss_nil)
      (pss_cons (ps_set (i := 11) scLriseright.nd rfl (by first | exact Or.inl rfl | exact Or.inr rfl) (pe_call (okLrow T) (hr.mono (by decide)) rfl T.gLrow T.fLrow.kp T.bLrow .nil pass0 (pa_cons (pe_tup (pa_cons (pv 2) pa_nil)) (pa_cons (pv 5) pa_nil))))
      (pss_cons (ps_if (pt_cmpR (op_neD hr.units) (pe_callN (okfate T) (hr.mono (by decide)) rfl T.gfate T.ffate.kp kb_parts pass0 (pa_cons (pv 11) (pa_cons (pe_tup (pa_cons (pv 8) pa_nil)) pa_nil)) (pk_cons (pv 7) pk_nil)) (pe_tup (pa_cons (pv 10) (pa_cons pe_int pa_nil))) (nomark _)) (pss_one (ps_ret pe_bl)) pss_nil)
      (pss_one (ps_ret (pe_cmpR (op_eqD hr.units) (pe_callN (okfate T) (hr.mono (by decide)) rfl T.gfate T.ffate.kp kb_parts pass0 (pa_cons (pv 11) (pa_cons (pe_tup (pa_cons (pe_op op_mul (pv 8) pe_int) pa_nil)) pa_nil)) (pk_cons (pe_op op_mul (pv 7) pe_int) pk_nil)) (pe_tup (pa_cons (pv 10) (pa_cons pe_int pa_nil))) (nomark _))))))))))))))))), ?_⟩
    -- size
    refine ⟨_, rfl, u, n, rfl, hw, by omega, fun H1 g1 lg1 w1 f1 => ⟨_, _, rfl, rfl, ⟨by decide, by decide⟩, _, _, rfl, rfl, ?_⟩⟩
    obtain ⟨S, hS⟩ : ∃ S : Int, 2 + (g1 : Int) / 3 = S := ⟨_, rfl⟩
    unfold gName
    generalize hσ : List.set _ 2 _ = σ
    obtain rfl : σ = [some (V.ref u), some (V.bl up), some (V.int S), none, none, none, none, none, none, none, none, none] := by rw [← hσ, ← hS]; rfl
    clear hσ
    have S2 : 2 ≤ S := by omega
    have Sb : S ≤ 400000000000 := by omega
    -- step
    refine ⟨_, rfl, _, rfl, u, _, n + 2, rfl, w1, by omega, by decide, by decide, fun H2 d2 l2 w2 f2 => ⟨_, _, rfl, rfl, _, _, rfl, rfl, ?_, _, _, rfl, rfl, ?_⟩⟩
    · exact wide_div (b := 100) (by omega) (by omega) (by decide) (by decide)
    obtain ⟨s, hs⟩ : ∃ s : Int, 1 + S / (1 + (d2 : Int)) = s := ⟨_, rfl⟩
    dsimp only
    generalize hσ : List.set _ 3 _ = σ
    obtain rfl : σ = [some (V.ref u), some (V.bl up), some (V.int S), some (V.int s), none, none, none, none, none, none, none, none] := by rw [← hσ, ← hs]; rfl
    clear hσ
    have q0 : 0 ≤ S / (1 + (d2 : Int)) := Int.ediv_nonneg (by omega) (by omega)
    have s1 : 1 ≤ s := by omega
    have s2 : s ≤ S + 1 := by
      have h1 : S / (1 + (d2 : Int)) ≤ S := Int.ediv_le_self _ (by omega)
      omega
    have s40 : S ≤ 40 * s := by
      have h := Int.lt_ediv_add_one_mul_self S (show 0 < 1 + (d2 : Int) by omega)
      rw [show S / (1 + (d2 : Int)) + 1 = s by omega] at h
      have h2 : s * (1 + (d2 : Int)) ≤ s * 40 := Int.mul_le_mul_of_nonneg_left (by omega) (by omega)
      omega
    -- little
    have e6 : (10 : Int) ^ (6 : Int).toNat = 1000000 := by decide
    refine ⟨_, rfl, _, rfl, _, _, rfl, rfl, _, _, rfl, rfl, ⟨by decide, by decide, by decide⟩, _, _, rfl, _, _, rfl, rfl, u, _, n + 3, rfl, w2, by omega, ?_, ?_, fun H3 d3 l3 w3 f3 => ⟨_, _, rfl, rfl, ?_⟩⟩
    · rw [e6]
      split <;> omega
    · rw [e6]
      have : (2 : Int) ^ 100 = 1267650600228229401496703205376 := by decide
      split <;> omega
    rw [e6] at l3
    obtain ⟨l, hl⟩ : ∃ l : Int, 1 + (d3 : Int) = l := ⟨_, rfl⟩
    dsimp only
    generalize hσ : List.set _ 4 _ = σ
    obtain rfl : σ = [some (V.ref u), some (V.bl up), some (V.int S), some (V.int s), some (V.int l), none, none, none, none, none, none, none] := by rw [← hσ, ← hl]; rfl
    clear hσ
    have l1 : 1 ≤ l := by omega
    have lS : l ≤ S := by split at l3 <;> omega
    have lb : l ≤ 1000001 := by split at l3 <;> omega
    clear l3 hl
    -- deeds
    refine ⟨_, rfl, _, rfl, _, _, rfl, rfl, (by show 3 ≤ sizeLine; decide), fun t1 ht1 => ⟨_, rfl, (by show 3 ≤ sizeLine; decide), fun t2 ht2 => ⟨(by show 2 ≤ sizeLine; decide), fun f hf => ?_⟩⟩⟩
    dsimp only at ht2 hf ⊢
    generalize hσ : List.set _ 5 _ = σ
    obtain rfl : σ = [some (V.ref u), some (V.bl up), some (V.int S), some (V.int s), some (V.int l), some (V.ref f), none, none, none, none, none, none] := hσ.symm
    clear hσ
    have x1 := same_new (o := .tup [V.str "put", V.int 0, V.int (l + s)]) ht1
    have x2 := same_new (o := .tup [V.str "draw", V.int 0, V.int l]) ht2
    have x3 := same_new (o := .lst [V.ref t1, V.ref t2]) hf
    have A3 : A2 (FactAt _) [V.ref t1, V.ref t2] (upDs true l s) := ⟨⟨t1, rfl, x3 _ _ (x2 _ _ upd_same)⟩, ⟨t2, rfl, x3 _ _ upd_same⟩, trivial⟩
    have g3 : (upd (upd (upd H3 t1 (.tup [V.str "put", V.int 0, V.int (l + s)])) t2 (.tup [V.str "draw", V.int 0, V.int l])) f (.lst [V.ref t1, V.ref t2])) f = some (.lst [V.ref t1, V.ref t2]) := upd_same
    have c3 := (x1.trans x2).trans x3
    have fu : f ≠ u := ((w3.same x1).same x2).ne hf
    have w4 := w3.same c3
    have fr4 := ((f1.trans f2).trans f3).trans (Fr.of c3)
    generalize upd (upd (upd H3 t1 (.tup [V.str "put", V.int 0, V.int (l + s)])) t2 (.tup [V.str "draw", V.int 0, V.int l])) f (.lst [V.ref t1, V.ref t2]) = H4 at A3 g3 w4 fr4 ⊢
    clear x1 x2 x3 c3 ht1 ht2 hf w3 f1 f2 f3 w1 w2 hw
    -- goal
    refine ⟨_, rfl, _, rfl, _, _, rfl, rfl, ?_⟩
    refine ⟨fun σ' H' => ∃ (f : Addr) (ts : List V) (G : Int), σ' = [some (V.ref u), some (V.bl up), some (V.int S), some (V.int s), some (V.int l), some (V.ref f), some (V.int G), none, none, none, none, none] ∧ H' f = some (.lst ts) ∧ A2 (FactAt H') ts (upDs up l s) ∧ f ≠ u ∧ WellAt (n + 4) H' u ∧ Fr u H H' ∧ G = if up = true then S - l else l, ?_, ?_⟩
    · refine ⟨_, rfl, _, rfl, ?_⟩
      cases up with
      | true => exact ifF rfl ⟨f, _, S - l, rfl, g3, A3, fu, w4, fr4, rfl⟩
      | false =>
        refine ifT rfl ⟨_, rfl, _, rfl, _, _, rfl, rfl, (by show 3 ≤ sizeLine; decide), fun t1 ht1 => ⟨_, rfl, (by show 3 ≤ sizeLine; decide), fun t2 ht2 => ⟨(by show 2 ≤ sizeLine; decide), fun f2 hf2 => ⟨_, rfl, f2, [V.ref t1, V.ref t2], l, rfl, ?_⟩⟩⟩⟩
        have x1 := same_new (o := .tup [V.str "draw", V.int 0, V.int (l + s)]) ht1
        have x2 := same_new (o := .tup [V.str "put", V.int 0, V.int l]) ht2
        have x3 := same_new (o := .lst [V.ref t1, V.ref t2]) hf2
        have c3 := (x1.trans x2).trans x3
        exact ⟨upd_same, ⟨⟨t1, rfl, x3 _ _ (x2 _ _ upd_same)⟩, ⟨t2, rfl, x3 _ _ upd_same⟩, trivial⟩, ((w4.same x1).same x2).ne hf2, w4.same c3, fr4.trans (Fr.of c3), rfl⟩
    rintro σ' H5 ⟨f5, ts, G, rfl, g5, A5, fu5, w5, fr5, hG⟩
    clear g3 A3 w4 fr4
    have G0 : 0 ≤ G := by rw [hG]; split <;> omega
    have GS : G ≤ S := by rw [hG]; split <;> omega
    -- shares
    refine ⟨_, rfl, u, 7, n + 4, rfl, w5, by omega, by decide, by decide, fun H6 d6 l6 w6 f6 => ⟨_, _, rfl, rfl, ?_⟩⟩
    obtain ⟨p, hp⟩ : ∃ p : Int, 1 + (d6 : Int) = p := ⟨_, rfl⟩
    dsimp only
    generalize hσ : List.set _ 7 _ = σ
    obtain rfl : σ = [some (V.ref u), some (V.bl up), some (V.int S), some (V.int s), some (V.int l), some (V.ref f5), some (V.int G), some (V.int p), none, none, none, none] := by rw [← hσ, ← hp]; rfl
    clear hσ
    have p1 : 1 ≤ p := by omega
    have p7 : p ≤ 7 := by omega
    have p62 : p < 2 ^ 62 := by omega
    have Sp0 : 0 ≤ S * p := Int.mul_nonneg (by omega) (by omega)
    have Gp0 : 0 ≤ G * p := Int.mul_nonneg G0 (by omega)
    have GSp : G * p ≤ S * p := Int.mul_le_mul_of_nonneg_right GS (by omega)
    -- start
    refine ⟨_, rfl, _, rfl, _, rfl, _, _, rfl, rfl, .inr (mulP p1 p62), _, rfl, _, rfl, _, _, rfl, rfl, .inr (mulP p1 p62), ?_⟩
    refine ⟨_, rfl, u, n + 5, rfl, w6, by omega, fun H7 g7 l7 w7 f7 => ⟨_, rfl, _, _, rfl, rfl, .inr (mulP p1 p62), _, _, rfl, rfl, _, rfl, _, rfl, _, _, rfl, rfl, .inr (mulP p1 p62), _, _, rfl, rfl, _, _, rfl, rfl, (by show 0 < S * p + 1; omega), (by show 4 ≤ sizeLine; decide), fun a ha => ?_⟩⟩
    refine ⟨u, a, [G * p, 0, S * p, ((g7 : Int) * p + 3) % (S * p + 1)], n + 7, rfl, w7.new ha, by omega, upd_same, w7.ne ha, by simp, by simp, fun H8 x8 hx8 w8 f8 => ?_⟩
    have x0 : 0 ≤ x8 ∧ x8 ≤ S * p := by
      have h1 := Int.emod_nonneg ((g7 : Int) * p + 3) (show S * p + 1 ≠ 0 by omega)
      have h2 := Int.emod_lt_of_pos ((g7 : Int) * p + 3) (show 0 < S * p + 1 by omega)
      simp only [List.mem_cons, List.not_mem_nil, or_false] at hx8
      rcases hx8 with h | h | h | h <;> rw [h] <;> constructor <;> omega
    dsimp only
    generalize hσ : List.set _ 8 _ = σ
    obtain rfl : σ = [some (V.ref u), some (V.bl up), some (V.int S), some (V.int s), some (V.int l), some (V.ref f5), some (V.int G), some (V.int p), some (V.int x8), none, none, none] := hσ.symm
    clear hσ hx8
    obtain ⟨o5, ho5, bo5⟩ := w5.ex
    have f58 : Fr u H5 H8 := ((f6.trans f7).trans (Fr.of (same_new ha))).trans f8
    have g8 := f58 _ _ fu5 g5
    have A8 : A2 (FactAt H8) ts (upDs up l s) := A2.mono (fun _ _ k => k.fr f58 ho5 bo5) A5
    have fr8 := fr5.trans f58
    clear g5 A5 w5 w6 w7 f6 f7 f8 ha ho5 bo5 f58
    -- away
    refine ⟨_, rfl, _, rfl, _, _, rfl, rfl, .inr (mulP p1 p62), _, rfl, _, _, rfl, rfl, _, rfl, (by show 2 ≤ sizeLine; decide), fun b hb => ?_⟩
    refine ⟨_, rfl, .inr ⟨_, rfl, b, _, _, _, rfl, rfl, SqL.of upd_same, pick2I, _, _, rfl, rfl, .inr ?_, ?_⟩⟩
    · split <;> exact ⟨by decide, by decide⟩
    obtain ⟨aw, haw⟩ : ∃ aw : Int, (G * p - x8) * (if up = true then 1 else -1) = aw := ⟨_, rfl⟩
    dsimp only
    generalize hσ : List.set _ 9 _ = σ
    obtain rfl : σ = [some (V.ref u), some (V.bl up), some (V.int S), some (V.int s), some (V.int l), some (V.ref f5), some (V.int G), some (V.int p), some (V.int x8), some (V.int aw), none, none] := by rw [← hσ, ← haw]; rfl
    clear hσ
    have s9 := same_new (o := .lst [V.int (-1), V.int 1]) hb
    generalize hH9 : upd H8 b _ = H9
    replace s9 : Same H8 H9 := by rw [← hH9]; exact s9
    clear hH9
    have g9 := s9 _ _ g8
    have A9 : A2 (FactAt H9) ts (upDs up l s) := A2.mono (fun _ _ k => k.same s9) A8
    have w9 := w8.same s9
    have fr9 := fr8.trans (Fr.of s9)
    clear g8 A8 w8 fr8 hb s9
    -- due
    refine ⟨_, rfl, rfl, .inr ⟨_, rfl, ?_⟩⟩
    dsimp only
    generalize hσ : List.set _ 10 _ = σ
    obtain ⟨dv0, hdv0⟩ : ∃ dv0 : Int, (if (!decide (V.int aw = V.int 0)) = true then (1 : Int) else 0) = dv0 := ⟨_, rfl⟩
    obtain rfl : σ = [some (V.ref u), some (V.bl up), some (V.int S), some (V.int s), some (V.int l), some (V.ref f5), some (V.int G), some (V.int p), some (V.int x8), some (V.int aw), some (V.int dv0), none] := by rw [← hσ, ← hdv0]; rfl
    clear hσ
    have dv1 : dv0 = if aw ≠ 0 then 1 else 0 := by
      rw [← hdv0]
      by_cases e : aw = 0
      · subst e
        simp
      · simp [e]
    have sp1 : 1 ≤ s * p := by
      have := Int.mul_le_mul s1 p1 (by decide) (by omega)
      omega
    have sp2 : s * p ≤ 1000000000001 * 7 := Int.mul_le_mul (by omega) p7 (by omega) (by decide)
    refine ⟨fun σ' H' => σ' = [some (V.ref u), some (V.bl up), some (V.int S), some (V.int s), some (V.int l), some (V.ref f5), some (V.int G), some (V.int p), some (V.int x8), some (V.int aw), some (V.int (tailAt aw (s * p))), none] ∧ H' = H9, ?_, ?_⟩
    · refine ⟨_, rfl, _, _, rfl, rfl, _, rfl, ifD (fun c => ?_) (fun c => ?_)⟩
      · refine ⟨_, rfl, _, rfl, _, rfl, _, _, rfl, rfl, .inr (mulP p1 p62), aw, s * p, rfl, sp1, (by have : (2 : Int) ^ 100 = 1267650600228229401496703205376 := by decide
                                                                                                     omega), ?_, rfl⟩
        unfold tailAt
        rw [if_pos c]
        rfl
      · refine ⟨?_, rfl⟩
        unfold tailAt
        rw [if_neg c, dv1]
    rintro σ' H' ⟨rfl, rfl⟩
    -- row
    refine ⟨_, rfl, (by show 1 ≤ sizeLine; decide), fun c hc => ?_⟩
    have s10 := same_new (o := .tup [V.int S]) hc
    have ok : ∀ d ∈ upDs up l s, d.ok [S] := fun d hd => by
      unfold upDs at hd
      split at hd
      · rcases List.mem_cons.mp hd with h | h
        · subst h
          exact ⟨by show 0 < 1; decide, by omega, by omega⟩
        · obtain rfl := List.mem_singleton.mp h
          exact ⟨by show 0 < 1; decide, by omega, by omega⟩
      · rcases List.mem_cons.mp hd with h | h
        · subst h
          exact ⟨by show 0 < 1; decide, by omega, by omega⟩
        · obtain rfl := List.mem_singleton.mp h
          exact ⟨by show 0 < 1; decide, by omega, by omega⟩
    have l2 : (upDs up l s).length ≤ 20 := by unfold upDs; split <;> simp
    have hC : Caps [S] := ⟨by simp, by simp, fun i hi => by
      obtain rfl : i = 0 := by simpa using hi
      show 1 ≤ S
      omega, fun i hi => by
      obtain rfl : i = 0 := by simpa using hi
      show S ≤ 1000000000000
      omega⟩
    have stand : ∀ p x : Int, 0 ≤ x → x ≤ S * p → Stand [S] p [x] := fun p x h0 h1 => ⟨rfl, fun i hi => by
      obtain rfl : i = 0 := by simpa using hi
      exact h0, fun i hi => by
      obtain rfl : i = 0 := by simpa using hi
      exact h1⟩
    have few : tailAt aw (s * p) ≤ 40 := by
      refine tail_few (by omega) (by decide) ?_
      have h1 : S * p ≤ 40 * s * p := Int.mul_le_mul_of_nonneg_right s40 (by omega)
      rw [Int.mul_assoc] at h1
      have : aw ≤ S * p := by
        rw [← haw]
        split <;> omega
      omega
    have tp := tail_pos (a := aw) (d := s * p) (by omega)
    have te : (((tailAt aw (s * p)).toNat : Nat) : Int) = tailAt aw (s * p) := by omega
    refine ⟨_, rfl, c, f5, [S], ts, upDs up l s, rfl, upd_same, hC, s10 _ _ g9, A2.mono (fun _ _ k => k.same s10) A9, l2, ok, fun H11 r r0 hR s11 => ?_⟩
    -- fate
    refine ⟨_, rfl, _, rfl, (by show 1 ≤ sizeLine; decide), fun a1 ha1 => ?_⟩
    refine ⟨_, rfl, rfl, rfl, r, a1, upDs up l s, [S], [x8], p, _, 1, rfl, hR.same (same_new ha1), ok, upd_same, p1, p62, stand p x8 x0.1 x0.2, rise_fate (aw := aw) p1 (by omega) lS s1 x0.1 x0.2 (by rw [← hG]; exact haw), by omega, fun H12 q q0 hq1 s12 => ?_⟩
    refine ⟨_, rfl, (by show 2 ≤ sizeLine; decide), fun t2 ht2 => neTI (l := [((tailAt aw (s * p)).toNat : Int), ((1 : Nat) : Int)]) (m := [tailAt aw (s * p), 1]) (SqT.of (same_new ht2 _ _ hq1)) (SqT.of upd_same) ⟨_, rfl, ifF ?_ ?_⟩⟩
    · rw [te, show ((1 : Nat) : Int) = 1 from rfl, decide_eq_true rfl]
      rfl
    have s13 := ((s11.trans (same_new ha1)).trans s12).trans (same_new (o := .tup [V.int (tailAt aw (s * p)), V.int 1]) ht2)
    have hR3 := ((hR.same (same_new (o := .tup [V.int x8]) ha1)).same s12).same (same_new (o := .tup [V.int (tailAt aw (s * p)), V.int 1]) ht2)
    generalize hH13 : upd H12 t2 _ = H13
    replace s13 : Same (upd H' c (.tup [V.int S])) H13 := by rw [← hH13]; exact s13
    replace hR3 : RowAt T H13 r [S] (upDs up l s) := by rw [← hH13]; exact hR3
    clear hH13 hq1
    have sp3 : s * (p * 3) = s * p * 3 := by rw [Int.mul_assoc]
    refine ⟨_, rfl, _, rfl, _, _, rfl, rfl, .inr ⟨by decide, by decide⟩, (by show 1 ≤ sizeLine; decide), fun a2 ha2 => ?_⟩
    have tl3 : tailAt (aw * 3) (s * (p * 3)) = tailAt aw (s * p) := by rw [sp3, tail_three]
    have F3 := rise_fate (S := S) (l := l) (s := s) (p := p * 3) (x := x8 * 3) (up := up) (aw := aw * 3) (by omega) (by omega) lS s1 (by omega) (by rw [← Int.mul_assoc]; omega) (by
      rw [← haw, ← hG, ← Int.mul_assoc]
      split <;> omega)
    rw [tl3] at F3
    refine ⟨_, rfl, _, _, rfl, rfl, .inr ⟨by decide, by decide⟩, rfl, rfl, r, a2, upDs up l s, [S], [x8 * 3], p * 3, _, 1, rfl, hR3.same (same_new ha2), ok, upd_same, by omega, by omega, stand _ _ (by omega) (by rw [← Int.mul_assoc]; omega), F3, by omega, fun H14 q5 q50 hq5 s14 => ?_⟩
    refine ⟨_, rfl, (by show 2 ≤ sizeLine; decide), fun t5 ht5 => eqTI (l := [((tailAt aw (s * p)).toNat : Int), ((1 : Nat) : Int)]) (m := [tailAt aw (s * p), 1]) (SqT.of (same_new ht5 _ _ hq5)) (SqT.of upd_same) ?_⟩
    rw [te, show ((1 : Nat) : Int) = 1 from rfl, decide_eq_true rfl]
    have s15 := ((s13.trans (same_new ha2)).trans s14).trans (same_new (o := .tup [V.int (tailAt aw (s * p)), V.int 1]) ht5)
    exact hq _ ((w9.same (s10.trans s15))) (fr9.trans (Fr.of (s10.trans s15)))
end
end Kp

namespace Kp
open PySem PySem.Spec PyProof.Rows L2 KpR
section
variable {K : PySem.W.Frag} {mg : Str → Option Value}
def spLpouredright (T : Tx K mg) : Sp := fun vs H Q _ => ∃ (u : Addr) (n : Nat), vs = [.ref u] ∧ WellAt n H u ∧ n ≤ 9000 ∧ ∀ H' : Hp, WellAt (n + 8) H' u → Fr u H H' → Q (.bl true) H'
end
section
variable {P : Program} {w : World} {K : PySem.W.Frag} {mg : Str → Option Value} {base : Heap}
theorem okLpouredright (T : Tx K mg) : FnOk P w K mg base CX0 6 T.aLpouredright T.dLpouredright ["_law_well_here"] (spLpouredright T) := by
  refine T.fLpouredright.ok scLpouredright (fun vs H Q E h => ?_) (fun cdv A outer s H vs Q E hr h => ?_)
  · obtain ⟨u, n, rfl, _⟩ := h
    rfl
  · obtain ⟨u, n, rfl, hw, n9, hq⟩ := h
    obtain ⟨mv, kb_parts⟩ := kbFate T
    refine ⟨_, (pss_cons (ps_set (i := 1) scLpouredright.nd rfl (by first | exact Or.inl rfl | exact Or.inr rfl) (pe_op op_add pe_int (pe_call (okLgreat T) (hr.mono (by decide)) rfl T.gLgreat T.fLgreat.kp T.bLgreat .nil pass0 (pa_cons (pv 0) pa_nil))))
      (pss_cons (ps_set (i := 2) scLpouredright.nd rfl (by first | exact Or.inl rfl | exact Or.inr rfl) (pe_op op_add pe_int (pe_op op_mod (pe_call (okLgreat T) (hr.mono (by decide)) rfl T.gLgreat T.fLgreat.kp T.bLgreat .nil pass0 (pa_cons (pv 0) pa_nil)) (pv 1))))
      (pss_cons (ps_set (i := 3) scLpouredright.nd rfl (by first | exact Or.inl rfl | exact Or.inr rfl) (pe_callB (call_min2 rfl) rfl T.nmin (by decide +kernel) (pa_cons (pv 1) (pa_cons (pe_op op_add pe_int (pe_op op_fdivW (pv 1) (pe_op op_add pe_int (pe_call (okLdraw T) (hr.mono (by decide)) rfl T.gLdraw T.fLdraw.kp T.bLdraw .nil pass0 (pa_cons (pv 0) (pa_cons pe_int pa_nil)))))) pa_nil))))
      (pss_cons (ps_set (i := 4) scLpouredright.nd rfl (by first | exact Or.inl rfl | exact Or.inr rfl) (pe_op op_add pe_int (pe_call (okLdraw T) (hr.mono (by decide)) rfl T.gLdraw T.fLdraw.kp T.bLdraw .nil pass0 (pa_cons (pv 0) (pa_cons pe_int pa_nil)))))
      (pss_cons (ps_set (i := 5) scLpouredright.nd rfl (by first | exact Or.inl rfl | exact Or.inr rfl) (pe_tup (pa_cons (pe_op op_mod (pe_op op_mul (pe_call (okLgreat T) (hr.mono (by decide)) rfl T.gLgreat T.fLgreat.kp T.bLgreat .nil pass0 (pa_cons (pv 0) pa_nil)) (pv 4)) (pe_op op_add (pe_op op_mul (pv 2) (pv 4)) pe_int)) (pa_cons (pe_op op_mul (pv 1) (pv 4)) pa_nil))))
      (pss_cons (ps_set (i := 6) scLpouredright.nd rfl (by first | exact Or.inl rfl | exact Or.inr rfl) (pe_lst (pa_cons (pe_tup (pa_cons pe_str (pa_cons pe_int (pa_cons (pv 3) pa_nil)))) (pa_cons (pe_tup (pa_cons pe_str (pa_cons pe_int (pa_cons pe_int pa_nil)))) pa_nil))))
      (pss_cons (ps_set (i := 7) scLpouredright.nd rfl (by first | exact Or.inl rfl | exact Or.inr rfl) (pe_call (okLover T) (hr.mono (by decide)) rfl T.gLover T.fLover.kp T.bLover .nil pass0 (pa_cons (pe_callB (show CallR _ _ (rSumT K) from cr_sumT rfl) rfl T.nsum (by decide +kernel) (pa_cons (pv 5) pa_nil)) (pa_cons (pe_op op_mul (pv 3) (pv 4)) pa_nil))))
      (pss_one (ps_ret (pe_cmpR (op_eqD hr.units) (pe_callN (okfate T) (hr.mono (by decide)) rfl T.gfate T.ffate.kp kb_parts pass0 (pa_cons (pe_call (okLrow T) (hr.mono (by decide)) rfl T.gLrow T.fLrow.kp T.bLrow .nil pass0 (pa_cons (pe_tup (pa_cons (pv 2) (pa_cons (pv 1) pa_nil))) (pa_cons (pv 6) pa_nil))) (pa_cons (pv 5) pa_nil)) (pk_cons (pv 4) pk_nil)) (pe_tup (pa_cons (pv 7) (pa_cons pe_int pa_nil))) (nomark _))))))))))), ?_⟩
    -- size
    refine ⟨_, rfl, u, n, rfl, hw, by omega, fun H1 g1 lg1 w1 f1 => ⟨_, _, rfl, rfl, ?_⟩⟩
    obtain ⟨S, hS⟩ : ∃ S : Int, 1 + (g1 : Int) = S := ⟨_, rfl⟩
    unfold gName
    generalize hσ : List.set _ 1 _ = σ
    obtain rfl : σ = [some (V.ref u), some (V.int S), none, none, none, none, none, none] := by rw [← hσ, ← hS]; rfl
    clear hσ
    have S1 : 1 ≤ S := by omega
    have Sb : S ≤ 1000000000000 := by omega
    -- wide
    refine ⟨_, rfl, u, n + 2, rfl, w1, by omega, fun H2 g2 lg2 w2 f2 => ⟨_, rfl, _, _, rfl, rfl, (by show 0 < S; omega), _, _, rfl, rfl, ?_⟩⟩
    obtain ⟨W, hW⟩ : ∃ W : Int, 1 + (g2 : Int) % S = W := ⟨_, rfl⟩
    dsimp only
    generalize hσ : List.set _ 2 _ = σ
    obtain rfl : σ = [some (V.ref u), some (V.int S), some (V.int W), none, none, none, none, none] := by rw [← hσ, ← hW]; rfl
    clear hσ
    have W1 : 1 ≤ W := by
      have := Int.emod_nonneg (g2 : Int) (show S ≠ 0 by omega)
      omega
    have WS : W ≤ S := by
      have := Int.emod_lt_of_pos (g2 : Int) (show 0 < S by omega)
      omega
    -- little
    refine ⟨_, rfl, _, rfl, _, rfl, u, _, n + 4, rfl, w2, by omega, by decide, by decide, fun H3 d3 l3 w3 f3 => ⟨_, _, rfl, rfl, _, _, rfl, rfl, wide_div (b := 100) (by omega) (by omega) (by decide) (by decide), _, _, rfl, rfl, _, _, rfl, ?_⟩⟩
    obtain ⟨l, hl⟩ : ∃ l : Int, (if 1 + S / (1 + (d3 : Int)) < S then 1 + S / (1 + (d3 : Int)) else S) = l := ⟨_, rfl⟩
    dsimp only
    generalize hσ : List.set _ 3 _ = σ
    obtain rfl : σ = [some (V.ref u), some (V.int S), some (V.int W), some (V.int l), none, none, none, none] := by rw [← hσ, ← hl]; rfl
    clear hσ
    have q0 : 0 ≤ S / (1 + (d3 : Int)) := Int.ediv_nonneg (by omega) (by omega)
    have l1 : 1 ≤ l := by rw [← hl]; split <;> omega
    have lS : l ≤ S := by rw [← hl]; split <;> omega
    have l40 : S ≤ 40 * l := by
      rw [← hl]
      split
      · have h := Int.lt_ediv_add_one_mul_self S (show 0 < 1 + (d3 : Int) by omega)
        have h2 : (S / (1 + (d3 : Int)) + 1) * (1 + (d3 : Int)) ≤ (S / (1 + (d3 : Int)) + 1) * 40 := Int.mul_le_mul_of_nonneg_left (by omega) (by omega)
        omega
      · omega
    clear hl q0
    -- shares
    refine ⟨_, rfl, u, 5, n + 5, rfl, w3, by omega, by decide, by decide, fun H4 d4 l4 w4 f4 => ⟨_, _, rfl, rfl, ?_⟩⟩
    obtain ⟨p, hp⟩ : ∃ p : Int, 1 + (d4 : Int) = p := ⟨_, rfl⟩
    dsimp only
    generalize hσ : List.set _ 4 _ = σ
    obtain rfl : σ = [some (V.ref u), some (V.int S), some (V.int W), some (V.int l), some (V.int p), none, none, none] := by rw [← hσ, ← hp]; rfl
    clear hσ
    have p1 : 1 ≤ p := by omega
    have p5 : p ≤ 5 := by omega
    have p62 : p < 2 ^ 62 := by omega
    have Sp0 : 0 ≤ S * p := Int.mul_nonneg (by omega) (by omega)
    have Wp0 : 0 ≤ W * p := Int.mul_nonneg (by omega) (by omega)
    have WSp : W * p ≤ S * p := Int.mul_le_mul_of_nonneg_right WS (by omega)
    -- start
    refine ⟨_, rfl, u, n + 6, rfl, w4, by omega, fun H5 g5 lg5 w5 f5 => ⟨_, rfl, _, _, rfl, rfl, .inr (mulP p1 p62), _, rfl, _, rfl, _, _, rfl, rfl, .inr (mulP p1 p62), _, _, rfl, rfl, _, _, rfl, rfl, (by show 0 < W * p + 1; omega), _, rfl, _, rfl, _, _, rfl, rfl, .inr (mulP p1 p62), (by show 2 ≤ sizeLine; decide), fun a ha => ?_⟩⟩
    obtain ⟨x, hx⟩ : ∃ x : Int, (g5 : Int) * p % (W * p + 1) = x := ⟨_, rfl⟩
    have x0 : 0 ≤ x := by rw [← hx]; exact Int.emod_nonneg _ (by omega)
    have xW : x ≤ W * p := by
      have := Int.emod_lt_of_pos ((g5 : Int) * p) (show 0 < W * p + 1 by omega)
      omega
    have s6 : Same H5 (upd H5 a (.tup (vi [x, S * p]))) := same_new ha
    have e6 : (upd H5 a (.tup (vi [x, S * p]))) a = some (.tup (vi [x, S * p])) := upd_same
    dsimp only
    generalize hσ : List.set _ 5 _ = σ
    obtain rfl : σ = [some (V.ref u), some (V.int S), some (V.int W), some (V.int l), some (V.int p), some (V.ref a), none, none] := hσ.symm
    clear hσ
    rw [hx]
    generalize hH6 : upd H5 a _ = H6
    replace s6 : Same H5 H6 := by rw [← hH6]; exact s6
    replace e6 : H6 a = some (.tup (vi [x, S * p])) := by rw [← hH6]; exact e6
    clear hH6 hx
    have w6 := w5.same s6
    have fr6 := ((((f1.trans f2).trans f3).trans f4).trans f5).trans (Fr.of s6)
    clear w1 w2 w3 w4 w5 f1 f2 f3 f4 f5 hw
    -- deeds
    refine ⟨_, rfl, (by show 3 ≤ sizeLine; decide), fun t1 ht1 => ⟨(by show 3 ≤ sizeLine; decide), fun t2 ht2 => ⟨(by show 2 ≤ sizeLine; decide), fun f hf => ?_⟩⟩⟩
    have x1 := same_new (o := .tup [V.str "draw", V.int 1, V.int l]) ht1
    have x2 := same_new (o := .tup [V.str "pour", V.int 0, V.int 1]) ht2
    have x3 := same_new (o := .lst [V.ref t1, V.ref t2]) hf
    have A7 : A2 (FactAt _) [V.ref t1, V.ref t2] [D.draw 1 l, D.pour 0 1] := ⟨⟨t1, rfl, x3 _ _ (x2 _ _ upd_same)⟩, ⟨t2, rfl, x3 _ _ upd_same⟩, trivial⟩
    have g7 : (upd (upd (upd H6 t1 (.tup [V.str "draw", V.int 1, V.int l])) t2 (.tup [V.str "pour", V.int 0, V.int 1])) f (.lst [V.ref t1, V.ref t2])) f = some (.lst [V.ref t1, V.ref t2]) := upd_same
    have c7 := (x1.trans x2).trans x3
    dsimp only
    generalize hσ : List.set _ 6 _ = σ
    obtain rfl : σ = [some (V.ref u), some (V.int S), some (V.int W), some (V.int l), some (V.int p), some (V.ref a), some (V.ref f), none] := hσ.symm
    clear hσ
    generalize hH7 : upd (upd (upd H6 t1 _) t2 _) f _ = H7
    replace A7 : A2 (FactAt H7) [V.ref t1, V.ref t2] [D.draw 1 l, D.pour 0 1] := by rw [← hH7]; exact A7
    replace g7 : H7 f = some (.lst [V.ref t1, V.ref t2]) := by rw [← hH7]; exact g7
    replace c7 : Same H6 H7 := by rw [← hH7]; exact c7
    clear hH7 x1 x2 x3 ht1 ht2 hf
    have e7 := c7 _ _ e6
    have w7 := w6.same c7
    have fr7 := fr6.trans (Fr.of c7)
    have lp1 : 1 ≤ l * p := by
      have := Int.mul_le_mul l1 p1 (by decide) (by omega)
      omega
    have lp2 : l * p ≤ 1000000000000 * 5 := Int.mul_le_mul (by omega) p5 (by omega) (by decide)
    have lpc : l * p < 2 ^ 100 := by
      have : (2 : Int) ^ 100 = 1267650600228229401496703205376 := by decide
      omega
    -- due
    refine ⟨_, rfl, a, [x, S * p], rfl, SqT.of e7, _, rfl, _, rfl, _, _, rfl, rfl, .inr (mulP p1 p62), _, l * p, rfl, lp1, lpc, ?_⟩
    have esum : [x, S * p].sum = x + S * p := by
      show x + (S * p + 0) = _
      omega
    rw [esum]
    obtain ⟨dv, hdv⟩ : ∃ dv : Int, over (x + S * p) (l * p) = dv := ⟨_, rfl⟩
    dsimp only
    generalize hσ : List.set _ 7 _ = σ
    obtain rfl : σ = [some (V.ref u), some (V.int S), some (V.int W), some (V.int l), some (V.int p), some (V.ref a), some (V.ref f), some (V.int dv)] := by rw [← hσ, ← hdv]; rfl
    clear hσ
    have ok : ∀ d ∈ [D.draw 1 l, D.pour 0 1], d.ok [W, S] := fun d hd => by
      rcases List.mem_cons.mp hd with h | h
      · subst h
        exact ⟨by simp, by omega, by omega⟩
      · obtain rfl := List.mem_singleton.mp h
        exact ⟨by simp, by simp, by decide⟩
    have two : ∀ {Q : Nat → Prop}, Q 0 → Q 1 → ∀ i, i < 2 → Q i := fun h0 h1 i hi => by
      match i, hi with
      | 0, _ => exact h0
      | 1, _ => exact h1
    have hC : Caps [W, S] := ⟨by simp, by simp, two (Q := fun i => 1 ≤ at0 [W, S] i) W1 S1, two (Q := fun i => at0 [W, S] i ≤ 1000000000000) (show W ≤ _ by omega) (show S ≤ _ by omega)⟩
    have stand : Stand [W, S] p [x, S * p] := ⟨rfl, two (Q := fun i => 0 ≤ at0 [x, S * p] i) x0 Sp0, two (Q := fun i => at0 [x, S * p] i ≤ at0 [W, S] i * p) xW (Int.le_refl _)⟩
    have F := pour_fate (W := W) (S := S) (l := l) (p := p) (x := x) p1 l1 lS x0
    rw [hdv] at F
    have d0 : 0 ≤ dv := by rw [← hdv]; exact over_pos (by omega) (by omega)
    have few : dv ≤ 80 := by
      rw [← hdv]
      refine over_few (by omega) ?_
      have h1 : S * p ≤ 40 * l * p := Int.mul_le_mul_of_nonneg_right l40 (by omega)
      rw [Int.mul_assoc] at h1
      omega
    have te : ((dv.toNat : Nat) : Int) = dv := by omega
    refine ⟨_, rfl, _, rfl, (by show 2 ≤ sizeLine; decide), fun c hc => ?_⟩
    have s8 := same_new (o := .tup [V.int W, V.int S]) hc
    refine ⟨_, rfl, c, f, [W, S], _, _, rfl, upd_same, hC, s8 _ _ g7, A2.mono (fun _ _ k => k.same s8) A7, by simp, ok, fun H9 r r0 hR s9 => ?_⟩
    refine ⟨_, rfl, _, rfl, rfl, rfl, r, a, _, [W, S], [x, S * p], p, _, 1, rfl, hR, ok, s9 _ _ (s8 _ _ e7), p1, p62, stand, F, by omega, fun H10 q q0 hq1 s10 => ?_⟩
    refine ⟨_, rfl, (by show 2 ≤ sizeLine; decide), fun t3 ht3 => eqTI (l := [((dv.toNat : Nat) : Int), ((1 : Nat) : Int)]) (m := [dv, 1]) (SqT.of (same_new ht3 _ _ hq1)) (SqT.of upd_same) ?_⟩
    rw [te, show ((1 : Nat) : Int) = 1 from rfl, decide_eq_true rfl]
    have c8 := ((s8.trans s9).trans s10).trans (same_new (o := .tup [V.int dv, V.int 1]) ht3)
    exact hq _ (w7.same c8) (fr7.trans (Fr.of c8))
end
end Kp

namespace Kp
open PySem PySem.Spec PyProof.Rows L2 KpR
section
variable {K : PySem.W.Frag} {mg : Str → Option Value}
def spLchangesright (T : Tx K mg) : Sp := fun vs H Q _ => ∃ (u : Addr) (n : Nat), vs = [.ref u] ∧ WellAt n H u ∧ n ≤ 9000 ∧ ∀ H' : Hp, WellAt (n + 40) H' u → Fr u H H' → Q (.bl true) H'
theorem bFate (T : Tx K mg) : ∃ ds, Vals [V.int 1] ds ∧ Binds K T.dfate ["row", "start", "parts"] ds :=
  T.ffate.binds0 2 (by simp) (by simp) (fun Dd doc pm an cdv ct us ks h1 h2 => match us, ks, h1, h2 with
    | [_, _], [_], _, _ => ⟨_, _, _, _, _, _, rfl, rfl, rfl⟩)
end
theorem gset {i : Nat} {v : V} {σ σ' : L2.St} {H : Hp} {Q : L2.St → Hp → Prop} (h : σ.set i (some v) = σ') (q : Q σ' H) : gName i v σ H Q := by
  subst h
  exact q
theorem at0_rep {M i : Nat} {Z : Int} (h : i < M) : at0 (List.replicate M Z) i = Z := by
  refine at0_of ?_
  rw [List.getElem?_replicate, if_pos h]
theorem rep_at {M : Nat} {Z : Int} (h : 0 < M) : atI (vi (List.replicate M Z)) (0 : Int) = some (V.int Z) := by
  have := vi_at (l := List.replicate M Z) (i := 0) (by rw [List.length_replicate]; exact h)
  rw [show (List.replicate M Z).getD 0 0 = Z from at0_rep h] at this
  exact this
theorem turn_ne {M a e : Nat} (ha : a < M) (he : e + 1 < M) : (a + 1 + e) % M < M ∧ a ≠ (a + 1 + e) % M := by
  refine ⟨Nat.mod_lt _ (by omega), ?_⟩
  by_cases c : a + 1 + e < M
  · rw [Nat.mod_eq_of_lt c]
    omega
  · rw [Nat.mod_eq_sub_mod (by omega), Nat.mod_eq_of_lt (by omega)]
    omega
theorem rep_vi {M : Nat} {z : Int} : (List.replicate ((M : Int)).toNat [V.int z]).flatten = vi (List.replicate M z) := by
  rw [Int.toNat_natCast]
  induction M with
  | zero => rfl
  | succ M ih =>
    rw [List.replicate_succ, List.replicate_succ, List.flatten_cons, ih]
    rfl
section
variable {P : Program} {w : World} {K : PySem.W.Frag} {mg : Str → Option Value} {base : Heap}
theorem okLchangesright (T : Tx K mg) : FnOk P w K mg base CX0 6 T.aLchangesright T.dLchangesright ["_law_well_here"] (spLchangesright T) := by
  refine T.fLchangesright.ok scLchangesright (fun vs H Q E h => ?_) (fun cdv A outer s H vs Q E hr h => ?_)
  · obtain ⟨u, n, rfl, _⟩ := h
    rfl
  · obtain ⟨u, n, rfl, hw, n9, hq⟩ := h
    obtain ⟨_, v_fate, b_fate⟩ := bFate T
    refine ⟨_, (pss_cons (ps_set (i := 1) scLchangesright.nd rfl (by first | exact Or.inl rfl | exact Or.inr rfl) (pe_op op_add pe_int (pe_call (okLdraw T) (hr.mono (by decide)) rfl T.gLdraw T.fLdraw.kp T.bLdraw .nil pass0 (pa_cons (pv 0) (pa_cons pe_int pa_nil)))))
      (pss_cons (ps_set (i := 2) scLchangesright.nd rfl (by first | exact Or.inl rfl | exact Or.inr rfl) (pe_op op_repT (pe_tup (pa_cons (pe_op op_add pe_int (pe_call (okLgreat T) (hr.mono (by decide)) rfl T.gLgreat T.fLgreat.kp T.bLgreat .nil pass0 (pa_cons (pv 0) pa_nil))) pa_nil)) (pv 1)))
      (pss_cons (ps_set (i := 3) scLchangesright.nd rfl (by first | exact Or.inl rfl | exact Or.inr rfl) (pe_lst pa_nil))
      (pss_cons (ps_for PassesOwn.never rfl (pi_range1 rfl T.nrange (pa_cons (pe_op op_add pe_int (pe_call (okLdraw T) (hr.mono (by decide)) rfl T.gLdraw T.fLdraw.kp T.bLdraw .nil pass0 (pa_cons (pv 0) (pa_cons pe_int pa_nil)))) pa_nil)) (pg_name (i := 4) scLchangesright.nd rfl (by first | exact Or.inl rfl | exact Or.inr rfl)) (pss_cons (ps_set (i := 5) scLchangesright.nd rfl (by first | exact Or.inl rfl | exact Or.inr rfl) (pe_call (okLdraw T) (hr.mono (by decide)) rfl T.gLdraw T.fLdraw.kp T.bLdraw .nil pass0 (pa_cons (pv 0) (pa_cons (pv 1) pa_nil))))
      (pss_one (ps_expr (pe_bm PySem.F.plainAttrs_list PySem.F.slot_list_append PySem.F.type_list_append mt_append (pv 3) (pa_cons (pe_tup (pa_cons pe_str (pa_cons (pv 5) (pa_cons (pe_op op_mod (pe_op op_add (pe_op op_add (pv 5) pe_int) (pe_call (okLdraw T) (hr.mono (by decide)) rfl T.gLdraw T.fLdraw.kp T.bLdraw .nil pass0 (pa_cons (pv 0) (pa_cons (pe_op op_sub (pv 1) pe_int) pa_nil)))) (pv 1)) pa_nil)))) pa_nil))))))
      (pss_cons (ps_set (i := 6) scLchangesright.nd rfl (by first | exact Or.inl rfl | exact Or.inr rfl) (pe_lc (own := [("_law_k", 4)]) rfl scLchangesright.nd (pi_range1 rfl T.nrange (pa_cons pe_int pa_nil)) (blkOk_by (own := [("_law_k", 4)]) (N := ["_law_well_here", "_law_jars", "_law_sizes", "_law_deeds", "_law_k", "_law_a", "_law_few", "_law_start", "_law_many", "_law_stand"]) (sc := defScope sLchangesright) (by decide +kernel)) (fun _ _ _ _ _ => (pg_name (i := 4) scLchangesright.nd rfl (by first | exact Or.inl rfl | exact Or.inr rfl))) (fun _ _ _ _ _ => pts_nil) (fun _ _ _ _ _ => (pe_op op_mod (pe_call (okLgreat T) (hr.mono (by decide)) rfl T.gLgreat T.fLgreat.kp T.bLgreat .nil pass0 (pa_cons (pv 0) pa_nil)) (pe_op op_add (pe_ix (r := rIxT K) ix_tup (pv 2) pe_int (fun _ _ => rfl)) pe_int)))))
      (pss_cons (ps_set (i := 7) scLchangesright.nd rfl (by first | exact Or.inl rfl | exact Or.inr rfl) (pe_callTy call_tuple_of rfl T.ntuple (by decide +kernel) (pa_cons (pe_lc (own := [("_law_k", 4)]) rfl scLchangesright.nd (pi_range1 rfl T.nrange (pa_cons (pv 1) pa_nil)) (blkOk_by (own := [("_law_k", 4)]) (N := ["_law_well_here", "_law_jars", "_law_sizes", "_law_deeds", "_law_k", "_law_a", "_law_few", "_law_start", "_law_many", "_law_stand"]) (sc := defScope sLchangesright) (by decide +kernel)) (fun _ _ _ _ _ => (pg_name (i := 4) scLchangesright.nd rfl (by first | exact Or.inl rfl | exact Or.inr rfl))) (fun _ _ _ _ _ => pts_nil) (fun _ _ _ _ _ => (pe_call (okLof T) (hr.mono (by decide)) rfl T.gLof T.fLof.kp T.bLof .nil pass0 (pa_cons (pv 0) (pa_cons (pe_op (show OpR _ _ (rCatR K) from op_catR) (pv 6) (pe_lst (pa_cons (pe_op op_mod (pe_call (okLgreat T) (hr.mono (by decide)) rfl T.gLgreat T.fLgreat.kp T.bLgreat .nil pass0 (pa_cons (pv 0) pa_nil)) (pe_op op_add (pe_ix (r := rIxT K) ix_tup (pv 2) pe_int (fun _ _ => rfl)) pe_int)) pa_nil))) pa_nil))))) pa_nil)))
      (pss_cons (ps_set (i := 8) scLchangesright.nd rfl (by first | exact Or.inl rfl | exact Or.inr rfl) pe_int)
      (pss_cons (ps_set (i := 9) scLchangesright.nd rfl (by first | exact Or.inl rfl | exact Or.inr rfl) (pe_call (okLonce T) (hr.mono (by decide)) rfl T.gLonce T.fLonce.kp T.bLonce .nil pass0 (pa_cons (pv 2) (pa_cons (pv 3) (pa_cons (pv 7) (pa_cons pe_int pa_nil))))))
      (pss_cons (ps_while PassesOwn.never (pt_cmpR (op_neD hr.units) (pv 9) (pv 7) (nomark _)) (pss_cons (ps_set (i := 9) scLchangesright.nd rfl (by first | exact Or.inl rfl | exact Or.inr rfl) (pe_call (okLonce T) (hr.mono (by decide)) rfl T.gLonce T.fLonce.kp T.bLonce .nil pass0 (pa_cons (pv 2) (pa_cons (pv 3) (pa_cons (pv 9) (pa_cons pe_int pa_nil))))))
      (pss_one (ps_set (i := 8) scLchangesright.nd rfl (by first | exact Or.inl rfl | exact Or.inr rfl) (pe_op op_add (pv 8) pe_int)))))
      (pss_one (ps_ret (pe_cmpR (op_eqD hr.units) (pe_call (okfate T) (hr.mono (by decide)) rfl T.gfate T.ffate.kp b_fate v_fate pass0 (pa_cons (pe_call (okLrow T) (hr.mono (by decide)) rfl T.gLrow T.fLrow.kp T.bLrow .nil pass0 (pa_cons (pv 2) (pa_cons (pv 3) pa_nil))) (pa_cons (pv 7) pa_nil))) (pe_tup (pa_cons pe_int (pa_cons (pv 8) pa_nil))) (nomark _))))))))))))), ?_⟩
    -- jars
    refine ⟨_, rfl, u, 5, n, rfl, hw, by omega, by decide, by decide, fun H1 d1 l1 w1 f1 => ⟨_, _, rfl, rfl, ?_⟩⟩
    obtain ⟨M, hM⟩ : ∃ M : Nat, 2 + d1 = M := ⟨_, rfl⟩
    have eM : 2 + (d1 : Int) = (M : Int) := by omega
    refine gset (σ' := [some (V.ref u), some (V.int (M : Int)), none, none, none, none, none, none, none, none]) (by rw [← eM]; rfl) ?_
    have M2 : 2 ≤ M := by omega
    have M6 : M ≤ 6 := by omega
    -- sizes
    refine ⟨_, rfl, u, n + 1, rfl, w1, by omega, fun H2 g2 lg2 w2 f2 => ⟨_, _, rfl, rfl, (by show 1 ≤ sizeLine; decide), fun t ht => ⟨_, rfl, t, _, _, rfl, rfl, SqT.of upd_same, by simp, by omega, by omega, by simp, fun c hc => ?_⟩⟩⟩
    obtain ⟨Z, hZ⟩ : ∃ Z : Int, 1 + (g2 : Int) = Z := ⟨_, rfl⟩
    refine gset (σ' := [some (V.ref u), some (V.int (M : Int)), some (V.ref c), none, none, none, none, none, none, none]) rfl ?_
    generalize hH3 : upd (upd H2 t _) c _ = H3
    have x1 : Same H2 H3 := by rw [← hH3]; exact (same_new ht).trans (same_new hc)
    have c3 : H3 c = some (.tup (vi (List.replicate M Z))) := by rw [← hH3, ← rep_vi, ← hZ]; exact upd_same
    clear hH3
    have w3 := w2.same x1
    have fr3 := (f1.trans f2).trans (Fr.of x1)
    have cu : c ≠ u := fun z => by
      obtain ⟨_, _, _, q, _⟩ := w3
      rw [← z, c3] at q
      cases q
    have Z1 : 1 ≤ Z := by omega
    have Zb : Z ≤ 1000000000000 := by omega
    clear hw w1 w2 f1 f2 x1
    -- deeds
    refine ⟨(by show 0 ≤ sizeLine; decide), fun f hf => ?_⟩
    refine gset (σ' := [some (V.ref u), some (V.int (M : Int)), some (V.ref c), some (V.ref f), none, none, none, none, none, none]) rfl ?_
    have fu : f ≠ u := w3.ne hf
    have cf : c ≠ f := ne_of_none c3 hf
    have w4 := w3.new (o := .lst []) hf
    have f4 : (upd H3 f (.lst [])) f = some (.lst []) := upd_same
    have c4 := same_new (o := .lst []) hf _ _ c3
    have fr4 := fr3.trans (Fr.of (same_new (o := .lst []) hf))
    have fH : H f = none := fr_free fr3 fu hf
    generalize upd H3 f (.lst []) = H4 at w4 f4 c4 fr4 ⊢
    clear w3 c3 fr3
    refine ⟨_, rfl, u, 6, n + 3, rfl, w4, by omega, by decide, by decide, fun H5 d5 l5 w5 f5 => ⟨_, _, rfl, rfl, _, rfl, by omega, by omega, ?_⟩⟩
    refine for_range (lo := 0) (n := (1 + (d5 : Int)).toNat) (fun i σ H' => ∃ (v4 v5 : Option V) (ts : List V) (ds : List D), σ = [some (V.ref u), some (V.int (M : Int)), some (V.ref c), some (V.ref f), v4, v5, none, none, none, none] ∧ H' f = some (.lst ts) ∧ A2 (FactAt H') ts ds ∧ ds.length = i ∧ (∀ d ∈ ds, d.chg M ∧ d.ok (List.replicate M Z)) ∧ WellAt (n + 4 + 2 * i) H' u ∧ Fr u H H' ∧ H' c = some (.tup (vi (List.replicate M Z))))
      ⟨none, none, [], [], rfl, f5 _ _ fu f4, trivial, rfl, (fun d h => by cases h), w5, fr4.trans f5, f5 _ _ cu c4⟩ ?_ ?_
    · rintro i σ H6 hi ⟨v4, v5, ts, ds, rfl, g6, A6, e6, ok6, w6, fr6, c6⟩
      refine ⟨_, rfl, _, rfl, u, M, n + 4 + 2 * i, rfl, w6, by omega, by omega, by omega, fun H7 a la w7 f7 => ?_⟩
      have la : a < M := by omega
      refine ⟨_, rfl, .inl ⟨rfl, _, SqL.of (f7 _ _ fu g6)⟩, _, rfl, _, rfl, _, _, rfl, rfl, _, rfl, _, rfl, _, _, rfl, rfl, u, _, n + 5 + 2 * i, rfl, w7.mono (by omega), by omega, by omega, by omega, fun H8 e le w8 f8 => ⟨_, _, rfl, rfl, _, rfl, _, _, rfl, rfl, (by show 0 < (M : Int); omega), (by show 3 ≤ sizeLine; decide), fun t ht => ?_⟩⟩
      have ec : ((a : Int) + 1 + (e : Int)) % (M : Int) = (((a + 1 + e) % M : Nat) : Int) := by
        rw [Int.natCast_emod]
        rfl
      generalize hH9 : upd H8 t _ = H9
      have x9 : Same H8 H9 := by rw [← hH9]; exact same_new ht
      have t9 : H9 t = some (.tup [V.str "change", V.int a, V.int (((a + 1 + e) % M : Nat) : Int)]) := by
        rw [← hH9, ← ec]
        exact upd_same
      clear hH9
      obtain ⟨b1, b2⟩ := turn_ne (M := M) (a := a) (e := e) la (by omega)
      generalize (a + 1 + e) % M = b at b1 b2 t9
      have okd : (D.change a b).ok (List.replicate M Z) := ⟨by rw [List.length_replicate]; exact la, by rw [List.length_replicate]; exact b1, b2, by rw [at0_rep la, at0_rep b1]⟩
      have g8 := f8 _ _ fu (f7 _ _ fu g6)
      have f69 := (f7.trans f8).trans (Fr.of x9)
      obtain ⟨o6, ho6, bo6⟩ := w6.ex
      have A9 : A2 (FactAt H9) (ts ++ [V.ref t]) (ds ++ [D.change a b]) := A2.app (A2.mono (fun _ _ k => k.fr f69 ho6 bo6) A6) ⟨⟨t, rfl, t9⟩, trivial⟩
      have w9 := w8.same x9
      have c9 := f69 _ _ cu c6
      have g9 := x9 _ _ g8
      refine ⟨f, _, _, rfl, rfl, g9, small1000 (by have := A6.len; omega), ?_⟩
      refine ⟨_, _, ts ++ [V.ref t], ds ++ [D.change a b], rfl, upd_same, ?_, by rw [List.length_append, e6]; rfl, ?_, ?_, ?_, ?_⟩
      · have q : Fr f H9 (upd H9 f (.lst (ts ++ [V.ref t]))) := fr_mut (Fr.refl _ _)
        exact A2.mono (fun _ _ k => k.fr q g9 bl_l) A9
      · intro d hd
        rcases List.mem_append.mp hd with h | h
        · exact ok6 d h
        · obtain rfl := List.mem_singleton.mp h
          exact ⟨⟨a, b, rfl, la, b1⟩, okd⟩
      · exact (w9.mut fu).mono (by omega)
      · intro b o nb hb
        rw [upd_ne (ne_of_none hb fH)]
        exact f69 b o nb (fr6 b o nb hb)
      · rw [upd_ne cf]
        exact c9
    · rintro σ H6 ⟨v4, v5, ts, ds, rfl, g6, A6, e6, ok6, w6, fr6, c6⟩
      have k6 : ds.length ≤ 6 := by omega
      have w6 := w6.mono (show n + 4 + 2 * ((1 + (d5 : Int)).toNat) ≤ n + 16 by omega)
      have lenR : (List.replicate M Z).length = M := List.length_replicate
      have hC : Caps (List.replicate M Z) := ⟨by omega, by omega, fun i hi => by rw [at0_rep (by omega)]; exact Z1, fun i hi => by rw [at0_rep (by omega)]; exact Zb⟩
      have ok : ∀ d ∈ ds, d.ok (List.replicate M Z) := fun d hd => (ok6 d hd).2
      clear f5 w5 fr4 f4 w4 c4
      -- few
      refine ⟨_, rfl, by decide, by decide, fun D1 hD1 => ?_⟩
      have d1u : D1 ≠ u := w6.ne hD1
      refine lc_range (lo := 0) (n := ((2 : Int)).toNat) (fun i H' => ∃ ws : List Int, H' D1 = some (.lst (vi ws)) ∧ ws.length = i ∧ (∀ x ∈ ws, 0 ≤ x ∧ x ≤ Z) ∧ WellAt (n + 16 + 2 * i) H' u ∧ Fr u H6 H') ⟨[], upd_same, rfl, (fun x h => by cases h), w6.new hD1, Fr.of (same_new hD1)⟩ ?_ ?_
      · rintro i H' hi ⟨ws, g1, rfl, z1, w7, f7⟩
        have hi2 : ws.length < 2 := hi
        refine ⟨rfl, ?_⟩
        refine ⟨_, rfl, u, n + 16 + 2 * ws.length, rfl, w7, by omega, fun H8 g lg w8 f8 => ⟨_, rfl, c, _, _, _, rfl, rfl, SqT.of (f8 _ _ cu (f7 _ _ cu c6)), (rep_at (by omega)), _, _, rfl, rfl, _, _, rfl, rfl, ?_, ?_⟩⟩
        · show 0 < Z + 1
          omega
        refine ⟨_, f8 _ _ d1u g1, Nat.lt_of_lt_of_le (by rw [List.length_map]; omega : _ < 100) (by decide), ws ++ [(g : Int) % (Z + 1)], ?_, by simp, ?_, ?_, ?_⟩
        · rw [upd_same]
          simp [vi]
        · intro x hx
          rcases List.mem_append.mp hx with h | h
          · exact z1 x h
          · obtain rfl := List.mem_singleton.mp h
            have q0 := Int.emod_nonneg (g : Int) (show Z + 1 ≠ 0 by omega)
            have q1 := Int.emod_lt_of_pos (g : Int) (show 0 < Z + 1 by omega)
            exact ⟨q0, by omega⟩
        · exact (w8.mut d1u).mono (by omega)
        · exact fr_new (f7.trans f8) hD1
      rintro H7 ⟨ws, g1, e1, z1, w7, f7⟩
      have e1 : ws.length = 2 := e1
      -- start
      refine ⟨_, rfl, _, rfl, by omega, by omega, fun D2 hD2 => ?_⟩
      have d2u : D2 ≠ u := w7.ne hD2
      refine lc_range (lo := 0) (n := ((M : Int)).toNat) (fun i H' => ∃ st : List Int, H' D2 = some (.lst (vi st)) ∧ st.length = i ∧ (∀ x ∈ st, 0 ≤ x ∧ x ≤ Z) ∧ WellAt (n + 20 + 3 * i) H' u ∧ Fr u H7 H') ⟨[], upd_same, rfl, (fun x h => by cases h), w7.new hD2, Fr.of (same_new hD2)⟩ ?_ ?_
      · rintro i H' hi ⟨st, q1, rfl, z2, w8, f8⟩
        have hi2 : st.length < M := by omega
        have c8 := f8 _ _ cu (f7 _ _ cu c6)
        have g8 := f8 _ _ d1u g1
        refine ⟨rfl, ?_⟩
        refine ⟨_, rfl, _, rfl, _, rfl, u, n + 20 + 3 * st.length, rfl, w8, by omega, fun H9 g lg w9 f9 => ⟨_, rfl, c, _, _, _, rfl, rfl, SqT.of (f9 _ _ cu c8), (rep_at (by omega)), _, _, rfl, rfl, _, _, rfl, rfl, ?_, ?_⟩⟩
        · show 0 < Z + 1
          omega
        refine ⟨(by show 1 ≤ sizeLine; decide), fun l hl => ⟨D1, l, _, _, rfl, rfl, SqL.of ((same_new hl) _ _ (f9 _ _ d1u g8)), SqL.of upd_same, ?_, fun q hq5 => ?_⟩⟩
        · rw [List.length_map]
          exact Nat.le_trans (by simp; omega : ws.length + [V.int ((g : Int) % (Z + 1))].length ≤ 100) (by decide)
        have x1 := same_new (o := .lst [V.int ((g : Int) % (Z + 1))]) hl
        have x2 := same_new (o := .lst (vi ws ++ [V.int ((g : Int) % (Z + 1))])) hq5
        have w10 := (w9.same x1).same x2
        refine ⟨u, q, ws ++ [(g : Int) % (Z + 1)], _, rfl, w10, by omega, ?_, ((w9.same x1).ne hq5), by simp, by simp; omega, fun H10 x hx w11 f11 => ?_⟩
        · rw [upd_same]
          simp [vi]
        refine ⟨_, f11 _ _ d2u (x2 _ _ (x1 _ _ (f9 _ _ d2u q1))), Nat.lt_of_lt_of_le (by rw [List.length_map]; omega : _ < 100) (by decide), st ++ [x], ?_, by simp, ?_, ?_, ?_⟩
        · rw [upd_same]
          simp [vi]
        · intro y hy
          rcases List.mem_append.mp hy with h | h
          · exact z2 y h
          · obtain rfl := List.mem_singleton.mp h
            rcases List.mem_append.mp hx with h | h
            · exact z1 y h
            · obtain rfl := List.mem_singleton.mp h
              have q0 := Int.emod_nonneg (g : Int) (show Z + 1 ≠ 0 by omega)
              have q1 := Int.emod_lt_of_pos (g : Int) (show 0 < Z + 1 by omega)
              exact ⟨q0, by omega⟩
        · exact (w11.mut d2u).mono (by omega)
        · exact fr_new ((((f8.trans f9).trans (Fr.of x1)).trans (Fr.of x2)).trans f11) hD2
      rintro H8 ⟨st, q1, e2, z2, w8, f8⟩
      have e2 : st.length = M := by omega
      refine ⟨D2, _, rfl, .inl ⟨SqL.of q1, fun a ha => ?_⟩⟩
      have x9 := same_new (o := .tup (vi st)) ha
      have w9 := (w8.same x9).mono (show n + 20 + 3 * ((M : Int)).toNat ≤ n + 38 by omega)
      have f69 := (f7.trans f8).trans (Fr.of x9)
      have fr9 := fr6.trans f69
      obtain ⟨o6, ho6, bo6⟩ := w6.ex
      have c9 := f69 _ _ cu c6
      have g9 := f69 _ _ fu g6
      have A9 : A2 (FactAt _) ts ds := A2.mono (fun _ _ k => k.fr f69 ho6 bo6) A6
      have a9 : (upd H8 a (.tup (vi st))) a = some (.tup (vi st)) := upd_same
      generalize upd H8 a (.tup (vi st)) = H9 at x9 w9 f69 fr9 c9 g9 A9 a9 ⊢
      clear x9 f69 f7 f8 w6 w7 w8 ho6 bo6 g1 q1 hD1 hD2
      obtain ⟨N, N60, F, hne⟩ := turn_fate (caps := List.replicate M Z) (p := 1) (ds := ds) (st := st) (fun d hd => by rw [e2]; exact (ok6 d hd).1) (by omega)
      have N1 := F.pos
      have back : it (run (List.replicate M Z) 1 ds) N st = st := by
        have := F.ring
        rw [Nat.zero_add] at this
        exact this
      have hst : Stand (List.replicate M Z) 1 st := ⟨by omega, fun i hi => (z2 _ (at0_mem (by omega))).1, fun i hi => by
        rw [at0_rep (by omega)]
        have := (z2 _ (at0_mem (l := st) (i := i) (by omega))).2
        omega⟩
      refine ⟨_, rfl, _, rfl, _, rfl, c, f, a, List.replicate M Z, st, ts, ds, 1, rfl, c9, g9, A9, ok, a9, by omega, by decide, by decide, fun H10 b b0 hb s10 => ?_⟩
      refine ⟨fun m σ H' => ∃ (k : Nat) (b : Addr), m = N - k ∧ 1 ≤ k ∧ k ≤ N ∧ σ = [some (V.ref u), some (V.int (M : Int)), some (V.ref c), some (V.ref f), v4, v5, some (V.ref D1), some (V.ref a), some (V.int (k : Int)), some (V.ref b)] ∧ H' b = some (.tup (vi (it (run (List.replicate M Z) 1 ds) k st))) ∧ Same H9 H', ⟨_, 1, b, rfl, by decide, N1, rfl, hb, s10⟩, ?_⟩
      rintro m σ H' ⟨k, b, rfl, k1, kN, rfl, hb, sm⟩
      refine ⟨_, rfl, _, rfl, neTI (SqT.of hb) (SqT.of (sm _ _ a9)) ⟨_, rfl, ?_⟩⟩
      by_cases e : k = N
      · subst e
        rw [back, decide_eq_true rfl]
        refine ifF rfl ?_
        refine ⟨_, rfl, _, rfl, c, f, List.replicate M Z, ts, ds, rfl, sm _ _ c9, hC, sm _ _ g9, A2.mono (fun _ _ k => k.same sm) A9, by omega, ok, fun H11 r r0 hR s11 => ?_⟩
        refine ⟨_, rfl, r, a, ds, List.replicate M Z, st, 1, 0, k, rfl, hR, ok, s11 _ _ (sm _ _ a9), by decide, by decide, hst, F, by omega, fun H12 q q0 hq1 s12 => ?_⟩
        refine ⟨_, rfl, (by show 2 ≤ sizeLine; decide), fun t3 ht3 => eqTI (l := [((0 : Nat) : Int), (k : Int)]) (m := [0, (k : Int)]) (SqT.of (same_new ht3 _ _ hq1)) (SqT.of upd_same) ?_⟩
        rw [show ((0 : Nat) : Int) = 0 from rfl, decide_eq_true rfl]
        have c8 := ((sm.trans s11).trans s12).trans (same_new (o := .tup [V.int 0, V.int k]) ht3)
        exact hq _ ((w9.same c8).mono (by omega)) (fr9.trans (Fr.of c8))
      · refine ifT (by rw [decide_eq_false (hne k k1 (by omega))]; rfl) ?_
        refine ⟨_, fun σ' H' h => h, ?_⟩
        refine ⟨_, rfl, _, rfl, _, rfl, c, f, b, List.replicate M Z, it (run (List.replicate M Z) 1 ds) k st, ts, ds, 1, rfl, sm _ _ c9, sm _ _ g9, A2.mono (fun _ _ k => k.same sm) A9, ok, hb, ?_, by decide, by decide, fun H11 b2 b20 hb2 s11 => ?_⟩
        · rw [← runs_it, runs_len]
          omega
        refine ⟨_, rfl, _, _, rfl, rfl, N - (k + 1), by omega, k + 1, b2, rfl, by omega, by omega, rfl, hb2, sm.trans s11⟩
end
end Kp

namespace Kp
open PySem PySem.Spec PyProof.Rows L2 KpR
theorem cut_mem {xs : List V} {lo hi : Option Int} {y : V} (h : y ∈ cutV xs lo hi) : y ∈ xs := List.mem_of_mem_drop (List.mem_of_mem_take h)
def spLaw (K : PySem.W.Frag) : Sp := fun vs H Q _ => ∃ (a : Addr) (ns : List Int), vs = [.ref a] ∧ SqL K H a (ns.map V.int) ∧ ns.length ≤ 63 ∧ ∀ H', Q (.bl true) H'
abbrev splaw {K : PySem.W.Frag} {mg : Str → Option Value} (T : Tx K mg) : Sp := spLaw K
section
variable {P : Program} {w : World} {K : PySem.W.Frag} {mg : Str → Option Value} {base : Heap}
theorem oklaw (T : Tx K mg) : FnOk P w K mg base CX0 7 T.alaw T.dlaw ["_law_script"] (splaw T) := by
  refine T.flaw.ok sclaw (fun vs H Q E h => ?_) (fun cdv A outer s H vs Q E hr h => ?_)
  · obtain ⟨a, ns, rfl, _⟩ := h
    rfl
  · obtain ⟨a, ns, rfl, hS, hlen, hq⟩ := h
    refine ⟨_, (pss_cons (ps_for PassesOwn.never rfl (pi_list (pe_op op_catR (pe_lst (pa_cons (pe_call (okLcellat T) (hr.mono (by decide)) rfl T.gLcellat T.fLcellat.kp T.bLcellat .nil pass0 (pa_cons (pv 0) (pa_cons pe_int pa_nil))) pa_nil)) (pe_slice sl_list (pv 0) (po_some pe_int) (po_some pe_int)))) (pg_name (i := 1) sclaw.nd rfl (by first | exact Or.inl rfl | exact Or.inr rfl)) (pss_cons (ps_set (i := 2) sclaw.nd rfl (by first | exact Or.inl rfl | exact Or.inr rfl) (pe_call (okLwell T) (hr.mono (by decide)) rfl T.gLwell T.fLwell.kp T.bLwell .nil pass0 (pa_cons (pv 1) pa_nil)))
      (pss_cons (ps_if (pt_not (pt_val (pe_call (okLriseright T) (hr.mono (by decide)) rfl T.gLriseright T.fLriseright.kp T.bLriseright .nil pass0 (pa_cons (pv 2) (pa_cons (pe_cmpR op_eq (pe_call (okLdraw T) (hr.mono (by decide)) rfl T.gLdraw T.fLdraw.kp T.bLdraw .nil pass0 (pa_cons (pv 2) (pa_cons pe_int pa_nil))) pe_int (nomark _)) pa_nil))))) (pss_one (ps_ret pe_bl)) pss_nil)
      (pss_one (ps_if (PW.pt (pw_or (pt_not (pt_val (pe_call (okLchangesright T) (hr.mono (by decide)) rfl T.gLchangesright T.fLchangesright.kp T.bLchangesright .nil pass0 (pa_cons (pv 2) pa_nil)))) (pw_or1 (pt_not (pt_val (pe_call (okLpouredright T) (hr.mono (by decide)) rfl T.gLpouredright T.fLpouredright.kp T.bLpouredright .nil pass0 (pa_cons (pv 2) pa_nil))))))) (pss_one (ps_ret pe_bl)) pss_nil)))))
      (pss_one (ps_ret pe_bl))), ?_⟩
    refine ⟨_, rfl, a, ns, 0, rfl, hS, fun n0 => ⟨(by show 1 ≤ sizeLine; decide), fun z hz => ?_⟩⟩
    have s1 := same_new (o := .lst [V.int n0]) hz
    refine ⟨_, rfl, _, rfl, _, rfl, a, _, rfl, s1.seq hS, fun q hq0 => ?_⟩
    have s2 := s1.trans (same_new (o := .lst (cutV (ns.map V.int) (some 1) (some 3))) hq0)
    refine ⟨z, q, _, _, rfl, rfl, SqL.of ((same_new hq0) _ _ upd_same), SqL.of upd_same, ?_, fun l hl => ?_⟩
    · have := cutV_length (ns.map V.int) (some 1) (some 3)
      rw [List.length_map] at this
      exact Nat.le_trans (by simp; omega : [V.int n0].length + (cutV (ns.map V.int) (some 1) (some 3)).length ≤ 100) (by decide)
    have s3 := s2.trans (same_new (o := .lst ([V.int n0] ++ cutV (ns.map V.int) (some 1) (some 3))) hl)
    refine ⟨l, rfl, ⟨_, SqL.of upd_same⟩, ?_⟩
    have allI : ∀ y ∈ [V.int n0] ++ cutV (ns.map V.int) (some 1) (some 3), ∃ n, y = V.int n := fun y hy => by
      rcases List.mem_append.mp hy with k | k
      · exact ⟨n0, by simpa using k⟩
      · obtain ⟨n, _, e⟩ := List.mem_map.mp (cut_mem k)
        exact ⟨n, e.symm⟩
    generalize hxs : [V.int n0] ++ cutV (ns.map V.int) (some 1) (some 3) = xs at *
    generalize hHl : upd _ l (.lst xs) = Hl
    have gl : Hl l = some (.lst xs) := by rw [← hHl]; exact upd_same
    clear s1 s2 s3 hHl hz hq0 hl
    refine for_list (K := K) (a := l) (xs := xs) (fun i σ H' => ∃ v1 v2 : Option V, σ = [some (.ref a), v1, v2] ∧ Same Hl H') ⟨none, none, rfl, Same.refl _⟩ (fun i σ H' _ ⟨_, _, _, e⟩ => e.seq (SqL.of gl)) ?_ ?_
    · rintro i y σ H0 hi ⟨v1, v2, rfl, sm0⟩
      obtain ⟨n, rfl⟩ := allI y (List.mem_of_getElem? hi)
      refine ⟨_, rfl, n, rfl, fun H1 s s0 w1 s1 => ?_⟩
      have sme : ∀ {G : Hp}, Fr s H0 G → Same H0 G := fun e b o q => e b o (ne_of_none q s0) q
      refine ⟨_, rfl, _, rfl, s, 2, 0, rfl, w1, by decide, by decide, by decide, fun H2 d2 l2 w2 f2 => ⟨rfl, s, _, 1, rfl, w2, by decide, fun H3 w3 f3 => ⟨_, rfl, ifF rfl ?_⟩⟩⟩
      refine ⟨_, rfl, s, 9, rfl, w3, by decide, fun H4 w4 f4 => ⟨_, rfl, ifF rfl ⟨_, rfl, s, 49, rfl, w4, by decide, fun H5 w5 f5 => ⟨_, rfl, ifF rfl ?_⟩⟩⟩⟩
      exact ⟨_, _, rfl, sm0.trans (sme ((((Fr.of s1).trans f2).trans f3).trans (f4.trans f5)))⟩
    · rintro σ H' ⟨v1, v2, rfl, sm⟩
      exact hq H'
end
end Kp

namespace Kp
open PySem PySem.Spec PyProof.Rows L2 KpR
theorem funD1 {K : PySem.W.Frag} {f D : Addr} {x qual p1 : Str} {n1 : Int} {st : Stmt} {oc doc pm cdv ct : Value} {od an : Option Addr} {osl : Array (Option Value)} {t1 : Tok}
    (l : K.lookup f = some ⟨oc, od, .func (PySem.W.fnOf x qual (defArgs st) (defBody st) (defScope st) .none (.ref D) doc pm an cdv ct), osl⟩) (c : PySem.W.codeIn K cdv qual = true) (k : PySem.W.keepIn K (.ref f) = true)
    (w1 : PySem.W.nsIn K D p1 = some (some (.int n1 t1))) :
    FunD K x qual (defArgs st) (defBody st) (defScope st) [] [(p1, .int n1)] f (PySem.W.fnOf x qual (defArgs st) (defBody st) (defScope st) .none (.ref D) doc pm an cdv ct) := by
  refine ⟨⟨oc, od, .none, .ref D, doc, pm, an, cdv, ct, osl, rfl, l, c, .inl ⟨rfl, rfl⟩, .inr ⟨D, rfl, fun q hq => ?_⟩⟩, k⟩
  rcases List.mem_cons.mp hq with e | hq
  · rw [e]
    exact ⟨_, w1, _, rfl⟩
  · cases hq
theorem funD2 {K : PySem.W.Frag} {f D : Addr} {x qual : Str} {st : Stmt} {oc doc pm cdv ct : Value} {od an : Option Addr} {osl : Array (Option Value)} {t1 t2 : Tok}
    (l : K.lookup f = some ⟨oc, od, .func (PySem.W.fnOf x qual (defArgs st) (defBody st) (defScope st) .none (.ref D) doc pm an cdv ct), osl⟩) (c : PySem.W.codeIn K cdv qual = true) (k : PySem.W.keepIn K (.ref f) = true)
    (w1 : PySem.W.nsIn K D "parts" = some (some (.int 1 t1))) (w2 : PySem.W.nsIn K D "times" = some (some (.int 1 t2))) :
    FunD K x qual (defArgs st) (defBody st) (defScope st) [] [("parts", .int 1), ("times", .int 1)] f (PySem.W.fnOf x qual (defArgs st) (defBody st) (defScope st) .none (.ref D) doc pm an cdv ct) := by
  refine ⟨⟨oc, od, .none, .ref D, doc, pm, an, cdv, ct, osl, rfl, l, c, .inl ⟨rfl, rfl⟩, .inr ⟨D, rfl, fun q hq => ?_⟩⟩, k⟩
  rcases List.mem_cons.mp hq with e | hq
  · rw [e]
    exact ⟨_, w1, _, rfl⟩
  · rcases List.mem_cons.mp hq with e | hq
    · rw [e]
      exact ⟨_, w2, _, rfl⟩
    · cases hq
theorem kit_tyV {K : PySem.W.Frag} {T : String} {A : Addr} {b : Bool} (h : PySem.W.subIn K (.ref A) (.type T) = some b) (m : PySem.W.kitMeta T = true := by decide +kernel) : PySem.W.kitOne K (.ref A) (.type T) = some b := by
  have ne : ¬ (Value.ref A == Value.type T) = true := fun z => nomatch eq_of_beq z
  unfold PySem.W.kitOne
  rw [if_neg ne]
  show (if PySem.W.kitMeta T = true then PySem.W.subIn K (.ref A) (.type T) else none) = some b
  rw [if_pos m]
  exact h
theorem all_mk {l : PySem.W.OpenLaw} {w : World} {K : PySem.W.Frag} {h : Heap} {mg : Str → Option Value} {fa CJars CPour CPut CDraw CChange CRow fcheckmuch fcheckjar fcheckdeed fJarsInit fPourInit fPutInit fDrawInit fChangeInit fRowInit fcheckstart fbehinddeed fbehindround ffate fLcellat fLwell fLdraw fLof fLdeedmade fLrow fLonce fLgreat fLover fLriseright fLchangesright fLpouredright flaw Dfate : Addr} (X : K.In h) (G : h.Ns mainGlobals mg) (hfa : mg "law" = some (.ref fa))
    {odcheckmuch ancheckmuch odcheckjar ancheckjar odcheckdeed ancheckdeed odJarsInit anJarsInit odPourInit anPourInit odPutInit anPutInit odDrawInit anDrawInit odChangeInit anChangeInit odRowInit anRowInit odcheckstart ancheckstart odbehinddeed anbehinddeed odbehindround anbehindround odfate anfate odLcellat anLcellat odLwell anLwell odLdraw anLdraw odLof anLof odLdeedmade anLdeedmade odLrow anLrow odLonce anLonce odLgreat anLgreat odLover anLover odLriseright anLriseright odLchangesright anLchangesright odLpouredright anLpouredright odlaw anlaw : Option Addr} {slcheckmuch slcheckjar slcheckdeed slJarsInit slPourInit slPutInit slDrawInit slChangeInit slRowInit slcheckstart slbehinddeed slbehindround slfate slLcellat slLwell slLdraw slLof slLdeedmade slLrow slLonce slLgreat slLover slLriseright slLchangesright slLpouredright sllaw : Array (Option Value)} {occheckmuch dccheckmuch pmcheckmuch cdcheckmuch ctcheckmuch kVcheckmuch occheckjar dccheckjar pmcheckjar cdcheckjar ctcheckjar kVcheckjar occheckdeed dccheckdeed pmcheckdeed cdcheckdeed ctcheckdeed kVcheckdeed ocJarsInit dcJarsInit pmJarsInit cdJarsInit ctJarsInit kVJarsInit ocPourInit dcPourInit pmPourInit cdPourInit ctPourInit kVPourInit ocPutInit dcPutInit pmPutInit cdPutInit ctPutInit kVPutInit ocDrawInit dcDrawInit pmDrawInit cdDrawInit ctDrawInit kVDrawInit ocChangeInit dcChangeInit pmChangeInit cdChangeInit ctChangeInit kVChangeInit ocRowInit dcRowInit pmRowInit cdRowInit ctRowInit kVRowInit occheckstart dccheckstart pmcheckstart cdcheckstart ctcheckstart kVcheckstart ocbehinddeed dcbehinddeed pmbehinddeed cdbehinddeed ctbehinddeed kVbehinddeed ocbehindround dcbehindround pmbehindround cdbehindround ctbehindround kVbehindround ocfate dcfate pmfate cdfate ctfate ocLcellat dcLcellat pmLcellat cdLcellat ctLcellat kVLcellat ocLwell dcLwell pmLwell cdLwell ctLwell kVLwell ocLdraw dcLdraw pmLdraw cdLdraw ctLdraw kVLdraw ocLof dcLof pmLof cdLof ctLof kVLof ocLdeedmade dcLdeedmade pmLdeedmade cdLdeedmade ctLdeedmade kVLdeedmade ocLrow dcLrow pmLrow cdLrow ctLrow kVLrow ocLonce dcLonce pmLonce cdLonce ctLonce kVLonce ocLgreat dcLgreat pmLgreat cdLgreat ctLgreat kVLgreat ocLover dcLover pmLover cdLover ctLover kVLover ocLriseright dcLriseright pmLriseright cdLriseright ctLriseright kVLriseright ocLchangesright dcLchangesright pmLchangesright cdLchangesright ctLchangesright kVLchangesright ocLpouredright dcLpouredright pmLpouredright cdLpouredright ctLpouredright kVLpouredright oclaw dclaw pmlaw cdlaw ctlaw kVlaw : Value} {tkMOSTJARS tkMOSTDEEDS tkMOSTMUCH tkMOSTROUNDS tfate_parts : Tok}
    (xJars : PySem.W.nsIn K mainGlobals "Jars" = some (some (.ref CJars)))
    (xPour : PySem.W.nsIn K mainGlobals "Pour" = some (some (.ref CPour)))
    (xPut : PySem.W.nsIn K mainGlobals "Put" = some (some (.ref CPut)))
    (xDraw : PySem.W.nsIn K mainGlobals "Draw" = some (some (.ref CDraw)))
    (xChange : PySem.W.nsIn K mainGlobals "Change" = some (some (.ref CChange)))
    (xRow : PySem.W.nsIn K mainGlobals "Row" = some (some (.ref CRow)))
    (acheckmuch : PySem.W.nsIn K mainGlobals "check_much" = some (some (.ref fcheckmuch)))
    (lcheckmuch : K.lookup fcheckmuch = some ⟨occheckmuch, odcheckmuch, .func (PySem.W.fnOf "check_much" "check_much" (defArgs scheckmuch) (defBody scheckmuch) (defScope scheckmuch) .none kVcheckmuch dccheckmuch pmcheckmuch ancheckmuch cdcheckmuch ctcheckmuch), slcheckmuch⟩)
    (qcheckmuch : PySem.W.codeIn K cdcheckmuch "check_much" = true)
    (kcheckmuch : PySem.W.keepIn K (.ref fcheckmuch) = true)
    (acheckjar : PySem.W.nsIn K mainGlobals "check_jar" = some (some (.ref fcheckjar)))
    (lcheckjar : K.lookup fcheckjar = some ⟨occheckjar, odcheckjar, .func (PySem.W.fnOf "check_jar" "check_jar" (defArgs scheckjar) (defBody scheckjar) (defScope scheckjar) .none kVcheckjar dccheckjar pmcheckjar ancheckjar cdcheckjar ctcheckjar), slcheckjar⟩)
    (qcheckjar : PySem.W.codeIn K cdcheckjar "check_jar" = true)
    (kcheckjar : PySem.W.keepIn K (.ref fcheckjar) = true)
    (acheckdeed : PySem.W.nsIn K mainGlobals "check_deed" = some (some (.ref fcheckdeed)))
    (lcheckdeed : K.lookup fcheckdeed = some ⟨occheckdeed, odcheckdeed, .func (PySem.W.fnOf "check_deed" "check_deed" (defArgs scheckdeed) (defBody scheckdeed) (defScope scheckdeed) .none kVcheckdeed dccheckdeed pmcheckdeed ancheckdeed cdcheckdeed ctcheckdeed), slcheckdeed⟩)
    (qcheckdeed : PySem.W.codeIn K cdcheckdeed "check_deed" = true)
    (kcheckdeed : PySem.W.keepIn K (.ref fcheckdeed) = true)
    (aJarsInit : PySem.W.findIn K (.ref CJars) "__init__" = some (some (.ref fJarsInit)))
    (iJarsInit : PySem.W.isFn K (.ref fJarsInit) = true)
    (lJarsInit : K.lookup fJarsInit = some ⟨ocJarsInit, odJarsInit, .func (PySem.W.fnOf "__init__" "Jars.__init__" (defArgs sJarsInit) (defBody sJarsInit) (defScope sJarsInit) .none kVJarsInit dcJarsInit pmJarsInit anJarsInit cdJarsInit ctJarsInit), slJarsInit⟩)
    (qJarsInit : PySem.W.codeIn K cdJarsInit "Jars.__init__" = true)
    (kJarsInit : PySem.W.keepIn K (.ref fJarsInit) = true)
    (aPourInit : PySem.W.findIn K (.ref CPour) "__init__" = some (some (.ref fPourInit)))
    (iPourInit : PySem.W.isFn K (.ref fPourInit) = true)
    (lPourInit : K.lookup fPourInit = some ⟨ocPourInit, odPourInit, .func (PySem.W.fnOf "__init__" "Pour.__init__" (defArgs sPourInit) (defBody sPourInit) (defScope sPourInit) .none kVPourInit dcPourInit pmPourInit anPourInit cdPourInit ctPourInit), slPourInit⟩)
    (qPourInit : PySem.W.codeIn K cdPourInit "Pour.__init__" = true)
    (kPourInit : PySem.W.keepIn K (.ref fPourInit) = true)
    (aPutInit : PySem.W.findIn K (.ref CPut) "__init__" = some (some (.ref fPutInit)))
    (iPutInit : PySem.W.isFn K (.ref fPutInit) = true)
    (lPutInit : K.lookup fPutInit = some ⟨ocPutInit, odPutInit, .func (PySem.W.fnOf "__init__" "Put.__init__" (defArgs sPutInit) (defBody sPutInit) (defScope sPutInit) .none kVPutInit dcPutInit pmPutInit anPutInit cdPutInit ctPutInit), slPutInit⟩)
    (qPutInit : PySem.W.codeIn K cdPutInit "Put.__init__" = true)
    (kPutInit : PySem.W.keepIn K (.ref fPutInit) = true)
    (aDrawInit : PySem.W.findIn K (.ref CDraw) "__init__" = some (some (.ref fDrawInit)))
    (iDrawInit : PySem.W.isFn K (.ref fDrawInit) = true)
    (lDrawInit : K.lookup fDrawInit = some ⟨ocDrawInit, odDrawInit, .func (PySem.W.fnOf "__init__" "Draw.__init__" (defArgs sDrawInit) (defBody sDrawInit) (defScope sDrawInit) .none kVDrawInit dcDrawInit pmDrawInit anDrawInit cdDrawInit ctDrawInit), slDrawInit⟩)
    (qDrawInit : PySem.W.codeIn K cdDrawInit "Draw.__init__" = true)
    (kDrawInit : PySem.W.keepIn K (.ref fDrawInit) = true)
    (aChangeInit : PySem.W.findIn K (.ref CChange) "__init__" = some (some (.ref fChangeInit)))
    (iChangeInit : PySem.W.isFn K (.ref fChangeInit) = true)
    (lChangeInit : K.lookup fChangeInit = some ⟨ocChangeInit, odChangeInit, .func (PySem.W.fnOf "__init__" "Change.__init__" (defArgs sChangeInit) (defBody sChangeInit) (defScope sChangeInit) .none kVChangeInit dcChangeInit pmChangeInit anChangeInit cdChangeInit ctChangeInit), slChangeInit⟩)
    (qChangeInit : PySem.W.codeIn K cdChangeInit "Change.__init__" = true)
    (kChangeInit : PySem.W.keepIn K (.ref fChangeInit) = true)
    (aRowInit : PySem.W.findIn K (.ref CRow) "__init__" = some (some (.ref fRowInit)))
    (iRowInit : PySem.W.isFn K (.ref fRowInit) = true)
    (lRowInit : K.lookup fRowInit = some ⟨ocRowInit, odRowInit, .func (PySem.W.fnOf "__init__" "Row.__init__" (defArgs sRowInit) (defBody sRowInit) (defScope sRowInit) .none kVRowInit dcRowInit pmRowInit anRowInit cdRowInit ctRowInit), slRowInit⟩)
    (qRowInit : PySem.W.codeIn K cdRowInit "Row.__init__" = true)
    (kRowInit : PySem.W.keepIn K (.ref fRowInit) = true)
    (acheckstart : PySem.W.nsIn K mainGlobals "check_start" = some (some (.ref fcheckstart)))
    (lcheckstart : K.lookup fcheckstart = some ⟨occheckstart, odcheckstart, .func (PySem.W.fnOf "check_start" "check_start" (defArgs scheckstart) (defBody scheckstart) (defScope scheckstart) .none kVcheckstart dccheckstart pmcheckstart ancheckstart cdcheckstart ctcheckstart), slcheckstart⟩)
    (qcheckstart : PySem.W.codeIn K cdcheckstart "check_start" = true)
    (kcheckstart : PySem.W.keepIn K (.ref fcheckstart) = true)
    (abehinddeed : PySem.W.nsIn K mainGlobals "behind_deed" = some (some (.ref fbehinddeed)))
    (lbehinddeed : K.lookup fbehinddeed = some ⟨ocbehinddeed, odbehinddeed, .func (PySem.W.fnOf "behind_deed" "behind_deed" (defArgs sbehinddeed) (defBody sbehinddeed) (defScope sbehinddeed) .none kVbehinddeed dcbehinddeed pmbehinddeed anbehinddeed cdbehinddeed ctbehinddeed), slbehinddeed⟩)
    (qbehinddeed : PySem.W.codeIn K cdbehinddeed "behind_deed" = true)
    (kbehinddeed : PySem.W.keepIn K (.ref fbehinddeed) = true)
    (abehindround : PySem.W.nsIn K mainGlobals "behind_round" = some (some (.ref fbehindround)))
    (lbehindround : K.lookup fbehindround = some ⟨ocbehindround, odbehindround, .func (PySem.W.fnOf "behind_round" "behind_round" (defArgs sbehindround) (defBody sbehindround) (defScope sbehindround) .none kVbehindround dcbehindround pmbehindround anbehindround cdbehindround ctbehindround), slbehindround⟩)
    (qbehindround : PySem.W.codeIn K cdbehindround "behind_round" = true)
    (kbehindround : PySem.W.keepIn K (.ref fbehindround) = true)
    (afate : PySem.W.nsIn K mainGlobals "fate" = some (some (.ref ffate)))
    (lfate : K.lookup ffate = some ⟨ocfate, odfate, .func (PySem.W.fnOf "fate" "fate" (defArgs sfate) (defBody sfate) (defScope sfate) .none (.ref Dfate) dcfate pmfate anfate cdfate ctfate), slfate⟩)
    (qfate : PySem.W.codeIn K cdfate "fate" = true)
    (kfate : PySem.W.keepIn K (.ref ffate) = true)
    (wfate_parts : PySem.W.nsIn K Dfate "parts" = some (some (.int 1 tfate_parts)))
    (aLcellat : PySem.W.nsIn K mainGlobals "_law_cell_at" = some (some (.ref fLcellat)))
    (lLcellat : K.lookup fLcellat = some ⟨ocLcellat, odLcellat, .func (PySem.W.fnOf "_law_cell_at" "_law_cell_at" (defArgs sLcellat) (defBody sLcellat) (defScope sLcellat) .none kVLcellat dcLcellat pmLcellat anLcellat cdLcellat ctLcellat), slLcellat⟩)
    (qLcellat : PySem.W.codeIn K cdLcellat "_law_cell_at" = true)
    (kLcellat : PySem.W.keepIn K (.ref fLcellat) = true)
    (aLwell : PySem.W.nsIn K mainGlobals "_law_well" = some (some (.ref fLwell)))
    (lLwell : K.lookup fLwell = some ⟨ocLwell, odLwell, .func (PySem.W.fnOf "_law_well" "_law_well" (defArgs sLwell) (defBody sLwell) (defScope sLwell) .none kVLwell dcLwell pmLwell anLwell cdLwell ctLwell), slLwell⟩)
    (qLwell : PySem.W.codeIn K cdLwell "_law_well" = true)
    (kLwell : PySem.W.keepIn K (.ref fLwell) = true)
    (aLdraw : PySem.W.nsIn K mainGlobals "_law_draw" = some (some (.ref fLdraw)))
    (lLdraw : K.lookup fLdraw = some ⟨ocLdraw, odLdraw, .func (PySem.W.fnOf "_law_draw" "_law_draw" (defArgs sLdraw) (defBody sLdraw) (defScope sLdraw) .none kVLdraw dcLdraw pmLdraw anLdraw cdLdraw ctLdraw), slLdraw⟩)
    (qLdraw : PySem.W.codeIn K cdLdraw "_law_draw" = true)
    (kLdraw : PySem.W.keepIn K (.ref fLdraw) = true)
    (aLof : PySem.W.nsIn K mainGlobals "_law_of" = some (some (.ref fLof)))
    (lLof : K.lookup fLof = some ⟨ocLof, odLof, .func (PySem.W.fnOf "_law_of" "_law_of" (defArgs sLof) (defBody sLof) (defScope sLof) .none kVLof dcLof pmLof anLof cdLof ctLof), slLof⟩)
    (qLof : PySem.W.codeIn K cdLof "_law_of" = true)
    (kLof : PySem.W.keepIn K (.ref fLof) = true)
    (aLdeedmade : PySem.W.nsIn K mainGlobals "_law_deed_made" = some (some (.ref fLdeedmade)))
    (lLdeedmade : K.lookup fLdeedmade = some ⟨ocLdeedmade, odLdeedmade, .func (PySem.W.fnOf "_law_deed_made" "_law_deed_made" (defArgs sLdeedmade) (defBody sLdeedmade) (defScope sLdeedmade) .none kVLdeedmade dcLdeedmade pmLdeedmade anLdeedmade cdLdeedmade ctLdeedmade), slLdeedmade⟩)
    (qLdeedmade : PySem.W.codeIn K cdLdeedmade "_law_deed_made" = true)
    (kLdeedmade : PySem.W.keepIn K (.ref fLdeedmade) = true)
    (aLrow : PySem.W.nsIn K mainGlobals "_law_row" = some (some (.ref fLrow)))
    (lLrow : K.lookup fLrow = some ⟨ocLrow, odLrow, .func (PySem.W.fnOf "_law_row" "_law_row" (defArgs sLrow) (defBody sLrow) (defScope sLrow) .none kVLrow dcLrow pmLrow anLrow cdLrow ctLrow), slLrow⟩)
    (qLrow : PySem.W.codeIn K cdLrow "_law_row" = true)
    (kLrow : PySem.W.keepIn K (.ref fLrow) = true)
    (aLonce : PySem.W.nsIn K mainGlobals "_law_once" = some (some (.ref fLonce)))
    (lLonce : K.lookup fLonce = some ⟨ocLonce, odLonce, .func (PySem.W.fnOf "_law_once" "_law_once" (defArgs sLonce) (defBody sLonce) (defScope sLonce) .none kVLonce dcLonce pmLonce anLonce cdLonce ctLonce), slLonce⟩)
    (qLonce : PySem.W.codeIn K cdLonce "_law_once" = true)
    (kLonce : PySem.W.keepIn K (.ref fLonce) = true)
    (aLgreat : PySem.W.nsIn K mainGlobals "_law_great" = some (some (.ref fLgreat)))
    (lLgreat : K.lookup fLgreat = some ⟨ocLgreat, odLgreat, .func (PySem.W.fnOf "_law_great" "_law_great" (defArgs sLgreat) (defBody sLgreat) (defScope sLgreat) .none kVLgreat dcLgreat pmLgreat anLgreat cdLgreat ctLgreat), slLgreat⟩)
    (qLgreat : PySem.W.codeIn K cdLgreat "_law_great" = true)
    (kLgreat : PySem.W.keepIn K (.ref fLgreat) = true)
    (aLover : PySem.W.nsIn K mainGlobals "_law_over" = some (some (.ref fLover)))
    (lLover : K.lookup fLover = some ⟨ocLover, odLover, .func (PySem.W.fnOf "_law_over" "_law_over" (defArgs sLover) (defBody sLover) (defScope sLover) .none kVLover dcLover pmLover anLover cdLover ctLover), slLover⟩)
    (qLover : PySem.W.codeIn K cdLover "_law_over" = true)
    (kLover : PySem.W.keepIn K (.ref fLover) = true)
    (aLriseright : PySem.W.nsIn K mainGlobals "_law_rise_right" = some (some (.ref fLriseright)))
    (lLriseright : K.lookup fLriseright = some ⟨ocLriseright, odLriseright, .func (PySem.W.fnOf "_law_rise_right" "_law_rise_right" (defArgs sLriseright) (defBody sLriseright) (defScope sLriseright) .none kVLriseright dcLriseright pmLriseright anLriseright cdLriseright ctLriseright), slLriseright⟩)
    (qLriseright : PySem.W.codeIn K cdLriseright "_law_rise_right" = true)
    (kLriseright : PySem.W.keepIn K (.ref fLriseright) = true)
    (aLchangesright : PySem.W.nsIn K mainGlobals "_law_changes_right" = some (some (.ref fLchangesright)))
    (lLchangesright : K.lookup fLchangesright = some ⟨ocLchangesright, odLchangesright, .func (PySem.W.fnOf "_law_changes_right" "_law_changes_right" (defArgs sLchangesright) (defBody sLchangesright) (defScope sLchangesright) .none kVLchangesright dcLchangesright pmLchangesright anLchangesright cdLchangesright ctLchangesright), slLchangesright⟩)
    (qLchangesright : PySem.W.codeIn K cdLchangesright "_law_changes_right" = true)
    (kLchangesright : PySem.W.keepIn K (.ref fLchangesright) = true)
    (aLpouredright : PySem.W.nsIn K mainGlobals "_law_poured_right" = some (some (.ref fLpouredright)))
    (lLpouredright : K.lookup fLpouredright = some ⟨ocLpouredright, odLpouredright, .func (PySem.W.fnOf "_law_poured_right" "_law_poured_right" (defArgs sLpouredright) (defBody sLpouredright) (defScope sLpouredright) .none kVLpouredright dcLpouredright pmLpouredright anLpouredright cdLpouredright ctLpouredright), slLpouredright⟩)
    (qLpouredright : PySem.W.codeIn K cdLpouredright "_law_poured_right" = true)
    (kLpouredright : PySem.W.keepIn K (.ref fLpouredright) = true)
    (alaw : PySem.W.nsIn K mainGlobals "law" = some (some (.ref flaw)))
    (llaw : K.lookup flaw = some ⟨oclaw, odlaw, .func (PySem.W.fnOf "law" "law" (defArgs slaw) (defBody slaw) (defScope slaw) .none kVlaw dclaw pmlaw anlaw cdlaw ctlaw), sllaw⟩)
    (qlaw : PySem.W.codeIn K cdlaw "law" = true)
    (klaw : PySem.W.keepIn K (.ref flaw) = true)
    (pgJars : PySem.W.plainGet K CJars Str.empty = true)
    (hdJars : PySem.W.hasDictIn K CJars = true)
    (poJars : PySem.W.plainOver K CJars = true)
    (saJars : PySem.W.findIn K (.ref CJars) "__setattr__" = some (some (.builtin "object.__setattr__")))
    (mkJars : PySem.W.makesIn K CJars = true)
    (kcJars : PySem.W.keepIn K (.ref CJars) = true)
    (nJars_sizes : PySem.W.findIn K (.ref CJars) "sizes" = some none)
    (pgPour : PySem.W.plainGet K CPour Str.empty = true)
    (hdPour : PySem.W.hasDictIn K CPour = true)
    (poPour : PySem.W.plainOver K CPour = true)
    (saPour : PySem.W.findIn K (.ref CPour) "__setattr__" = some (some (.builtin "object.__setattr__")))
    (mkPour : PySem.W.makesIn K CPour = true)
    (kcPour : PySem.W.keepIn K (.ref CPour) = true)
    (nPour_a : PySem.W.findIn K (.ref CPour) "a" = some none)
    (nPour_b : PySem.W.findIn K (.ref CPour) "b" = some none)
    (pgPut : PySem.W.plainGet K CPut Str.empty = true)
    (hdPut : PySem.W.hasDictIn K CPut = true)
    (poPut : PySem.W.plainOver K CPut = true)
    (saPut : PySem.W.findIn K (.ref CPut) "__setattr__" = some (some (.builtin "object.__setattr__")))
    (mkPut : PySem.W.makesIn K CPut = true)
    (kcPut : PySem.W.keepIn K (.ref CPut) = true)
    (nPut_a : PySem.W.findIn K (.ref CPut) "a" = some none)
    (nPut_k : PySem.W.findIn K (.ref CPut) "k" = some none)
    (pgDraw : PySem.W.plainGet K CDraw Str.empty = true)
    (hdDraw : PySem.W.hasDictIn K CDraw = true)
    (poDraw : PySem.W.plainOver K CDraw = true)
    (saDraw : PySem.W.findIn K (.ref CDraw) "__setattr__" = some (some (.builtin "object.__setattr__")))
    (mkDraw : PySem.W.makesIn K CDraw = true)
    (kcDraw : PySem.W.keepIn K (.ref CDraw) = true)
    (nDraw_a : PySem.W.findIn K (.ref CDraw) "a" = some none)
    (nDraw_k : PySem.W.findIn K (.ref CDraw) "k" = some none)
    (pgChange : PySem.W.plainGet K CChange Str.empty = true)
    (hdChange : PySem.W.hasDictIn K CChange = true)
    (poChange : PySem.W.plainOver K CChange = true)
    (saChange : PySem.W.findIn K (.ref CChange) "__setattr__" = some (some (.builtin "object.__setattr__")))
    (mkChange : PySem.W.makesIn K CChange = true)
    (kcChange : PySem.W.keepIn K (.ref CChange) = true)
    (nChange_a : PySem.W.findIn K (.ref CChange) "a" = some none)
    (nChange_b : PySem.W.findIn K (.ref CChange) "b" = some none)
    (pgRow : PySem.W.plainGet K CRow Str.empty = true)
    (hdRow : PySem.W.hasDictIn K CRow = true)
    (poRow : PySem.W.plainOver K CRow = true)
    (saRow : PySem.W.findIn K (.ref CRow) "__setattr__" = some (some (.builtin "object.__setattr__")))
    (mkRow : PySem.W.makesIn K CRow = true)
    (kcRow : PySem.W.keepIn K (.ref CRow) = true)
    (nRow_jars : PySem.W.findIn K (.ref CRow) "jars" = some none)
    (nRow_deeds : PySem.W.findIn K (.ref CRow) "deeds" = some none)
    (yaChange : PySem.W.findIn K (.ref CChange) "__class__" = some (some (.builtin "object.__class__")))
    (ymChange : PySem.W.mroIn K CChange (.type "object") = some true)
    (yaDraw : PySem.W.findIn K (.ref CDraw) "__class__" = some (some (.builtin "object.__class__")))
    (ymDraw : PySem.W.mroIn K CDraw (.type "object") = some true)
    (yaPour : PySem.W.findIn K (.ref CPour) "__class__" = some (some (.builtin "object.__class__")))
    (ymPour : PySem.W.mroIn K CPour (.type "object") = some true)
    (yaPut : PySem.W.findIn K (.ref CPut) "__class__" = some (some (.builtin "object.__class__")))
    (ymPut : PySem.W.mroIn K CPut (.type "object") = some true)
    (yn : PySem.W.specialIn K (.builtin "object.__class__") "__get__" = some (some (.builtin "getset_descriptor.__get__")))
    (yt : PySem.W.takesIn K (.builtin "object.__class__") = some true)
    (isPour_Put : PySem.W.kitOne K (.ref CPour) (.ref CPut) = some false)
    (isPour_Draw : PySem.W.kitOne K (.ref CPour) (.ref CDraw) = some false)
    (isPour_Pour : PySem.W.kitOne K (.ref CPour) (.ref CPour) = some true)
    (isPour_Change : PySem.W.kitOne K (.ref CPour) (.ref CChange) = some false)
    (isPut_Put : PySem.W.kitOne K (.ref CPut) (.ref CPut) = some true)
    (isPut_Draw : PySem.W.kitOne K (.ref CPut) (.ref CDraw) = some false)
    (isPut_Pour : PySem.W.kitOne K (.ref CPut) (.ref CPour) = some false)
    (isPut_Change : PySem.W.kitOne K (.ref CPut) (.ref CChange) = some false)
    (isDraw_Put : PySem.W.kitOne K (.ref CDraw) (.ref CPut) = some false)
    (isDraw_Draw : PySem.W.kitOne K (.ref CDraw) (.ref CDraw) = some true)
    (isDraw_Pour : PySem.W.kitOne K (.ref CDraw) (.ref CPour) = some false)
    (isDraw_Change : PySem.W.kitOne K (.ref CDraw) (.ref CChange) = some false)
    (isChange_Put : PySem.W.kitOne K (.ref CChange) (.ref CPut) = some false)
    (isChange_Draw : PySem.W.kitOne K (.ref CChange) (.ref CDraw) = some false)
    (isChange_Pour : PySem.W.kitOne K (.ref CChange) (.ref CPour) = some false)
    (isChange_Change : PySem.W.kitOne K (.ref CChange) (.ref CChange) = some true)
    (gMOSTJARS : PySem.W.nsIn K mainGlobals "MOST_JARS" = some (some (.int 6 tkMOSTJARS)))
    (gMOSTDEEDS : PySem.W.nsIn K mainGlobals "MOST_DEEDS" = some (some (.int 20 tkMOSTDEEDS)))
    (gMOSTMUCH : PySem.W.nsIn K mainGlobals "MOST_MUCH" = some (some (.int 1000000000000 tkMOSTMUCH)))
    (gMOSTROUNDS : PySem.W.nsIn K mainGlobals "MOST_ROUNDS" = some (some (.int 20000 tkMOSTROUNDS)))
    (zenumerate : PySem.W.nsIn K mainGlobals "enumerate" = some none)
    (zint : PySem.W.nsIn K mainGlobals "int" = some none)
    (zisinstance : PySem.W.nsIn K mainGlobals "isinstance" = some none)
    (zlen : PySem.W.nsIn K mainGlobals "len" = some none)
    (zlist : PySem.W.nsIn K mainGlobals "list" = some none)
    (zmax : PySem.W.nsIn K mainGlobals "max" = some none)
    (zmin : PySem.W.nsIn K mainGlobals "min" = some none)
    (zrange : PySem.W.nsIn K mainGlobals "range" = some none)
    (zsum : PySem.W.nsIn K mainGlobals "sum" = some none)
    (ztuple : PySem.W.nsIn K mainGlobals "tuple" = some none) :
    ∃ fd : FuncData, (∀ (s : Shared) (v : Value), BindsTo s fd ⟨[v], []⟩ [("_law_script", v)]) ∧ ∀ base : Heap, K.In base → base.Ns mainGlobals mg → FnOk l.prog w K mg base CX0 7 fa fd ["_law_script"] (spLaw K) := by
  have e := hfa.symm.trans (PySem.W.mg_of X G alaw)
  cases e
  exact ⟨PySem.W.fnOf "law" "law" (defArgs slaw) (defBody slaw) (defScope slaw) .none kVlaw dclaw pmlaw anlaw cdlaw ctlaw, fun s v => .of_eq rfl, fun base _ _ => oklaw {
    cJars := CJars
    mJars := PySem.W.mg_of X G xJars
    cPour := CPour
    mPour := PySem.W.mg_of X G xPour
    cPut := CPut
    mPut := PySem.W.mg_of X G xPut
    cDraw := CDraw
    mDraw := PySem.W.mg_of X G xDraw
    cChange := CChange
    mChange := PySem.W.mg_of X G xChange
    cRow := CRow
    mRow := PySem.W.mg_of X G xRow
    gcheckmuch := PySem.W.mg_of X G acheckmuch
    acheckmuch := fcheckmuch
    dcheckmuch := PySem.W.fnOf "check_much" "check_much" (defArgs scheckmuch) (defBody scheckmuch) (defScope scheckmuch) .none kVcheckmuch dccheckmuch pmcheckmuch ancheckmuch cdcheckmuch ctcheckmuch
    fcheckmuch := fun_mk (st := scheckmuch) lcheckmuch qcheckmuch kcheckmuch
    bcheckmuch := (fun_mk (st := scheckmuch) lcheckmuch qcheckmuch kcheckmuch).binds (ps := ["what", "much"]) fun _ _ _ _ _ _ us hl => match us, hl with | [_, _], _ => rfl
    gcheckjar := PySem.W.mg_of X G acheckjar
    acheckjar := fcheckjar
    dcheckjar := PySem.W.fnOf "check_jar" "check_jar" (defArgs scheckjar) (defBody scheckjar) (defScope scheckjar) .none kVcheckjar dccheckjar pmcheckjar ancheckjar cdcheckjar ctcheckjar
    fcheckjar := fun_mk (st := scheckjar) lcheckjar qcheckjar kcheckjar
    bcheckjar := (fun_mk (st := scheckjar) lcheckjar qcheckjar kcheckjar).binds (ps := ["jars", "jar"]) fun _ _ _ _ _ _ us hl => match us, hl with | [_, _], _ => rfl
    gcheckdeed := PySem.W.mg_of X G acheckdeed
    acheckdeed := fcheckdeed
    dcheckdeed := PySem.W.fnOf "check_deed" "check_deed" (defArgs scheckdeed) (defBody scheckdeed) (defScope scheckdeed) .none kVcheckdeed dccheckdeed pmcheckdeed ancheckdeed cdcheckdeed ctcheckdeed
    fcheckdeed := fun_mk (st := scheckdeed) lcheckdeed qcheckdeed kcheckdeed
    bcheckdeed := (fun_mk (st := scheckdeed) lcheckdeed qcheckdeed kcheckdeed).binds (ps := ["jars", "deed"]) fun _ _ _ _ _ _ us hl => match us, hl with | [_, _], _ => rfl
    aJarsInit := fJarsInit
    dJarsInit := PySem.W.fnOf "__init__" "Jars.__init__" (defArgs sJarsInit) (defBody sJarsInit) (defScope sJarsInit) .none kVJarsInit dcJarsInit pmJarsInit anJarsInit cdJarsInit ctJarsInit
    fJarsInit := fun_mk (st := sJarsInit) lJarsInit qJarsInit kJarsInit
    bJarsInit := (fun_mk (st := sJarsInit) lJarsInit qJarsInit kJarsInit).binds (ps := ["self", "sizes"]) fun _ _ _ _ _ _ us hl => match us, hl with | [_, _], _ => rfl
    aPourInit := fPourInit
    dPourInit := PySem.W.fnOf "__init__" "Pour.__init__" (defArgs sPourInit) (defBody sPourInit) (defScope sPourInit) .none kVPourInit dcPourInit pmPourInit anPourInit cdPourInit ctPourInit
    fPourInit := fun_mk (st := sPourInit) lPourInit qPourInit kPourInit
    bPourInit := (fun_mk (st := sPourInit) lPourInit qPourInit kPourInit).binds (ps := ["self", "a", "b"]) fun _ _ _ _ _ _ us hl => match us, hl with | [_, _, _], _ => rfl
    aPutInit := fPutInit
    dPutInit := PySem.W.fnOf "__init__" "Put.__init__" (defArgs sPutInit) (defBody sPutInit) (defScope sPutInit) .none kVPutInit dcPutInit pmPutInit anPutInit cdPutInit ctPutInit
    fPutInit := fun_mk (st := sPutInit) lPutInit qPutInit kPutInit
    bPutInit := (fun_mk (st := sPutInit) lPutInit qPutInit kPutInit).binds (ps := ["self", "a", "k"]) fun _ _ _ _ _ _ us hl => match us, hl with | [_, _, _], _ => rfl
    aDrawInit := fDrawInit
    dDrawInit := PySem.W.fnOf "__init__" "Draw.__init__" (defArgs sDrawInit) (defBody sDrawInit) (defScope sDrawInit) .none kVDrawInit dcDrawInit pmDrawInit anDrawInit cdDrawInit ctDrawInit
    fDrawInit := fun_mk (st := sDrawInit) lDrawInit qDrawInit kDrawInit
    bDrawInit := (fun_mk (st := sDrawInit) lDrawInit qDrawInit kDrawInit).binds (ps := ["self", "a", "k"]) fun _ _ _ _ _ _ us hl => match us, hl with | [_, _, _], _ => rfl
    aChangeInit := fChangeInit
    dChangeInit := PySem.W.fnOf "__init__" "Change.__init__" (defArgs sChangeInit) (defBody sChangeInit) (defScope sChangeInit) .none kVChangeInit dcChangeInit pmChangeInit anChangeInit cdChangeInit ctChangeInit
    fChangeInit := fun_mk (st := sChangeInit) lChangeInit qChangeInit kChangeInit
    bChangeInit := (fun_mk (st := sChangeInit) lChangeInit qChangeInit kChangeInit).binds (ps := ["self", "a", "b"]) fun _ _ _ _ _ _ us hl => match us, hl with | [_, _, _], _ => rfl
    aRowInit := fRowInit
    dRowInit := PySem.W.fnOf "__init__" "Row.__init__" (defArgs sRowInit) (defBody sRowInit) (defScope sRowInit) .none kVRowInit dcRowInit pmRowInit anRowInit cdRowInit ctRowInit
    fRowInit := fun_mk (st := sRowInit) lRowInit qRowInit kRowInit
    bRowInit := (fun_mk (st := sRowInit) lRowInit qRowInit kRowInit).binds (ps := ["self", "jars", "deeds"]) fun _ _ _ _ _ _ us hl => match us, hl with | [_, _, _], _ => rfl
    gcheckstart := PySem.W.mg_of X G acheckstart
    acheckstart := fcheckstart
    dcheckstart := PySem.W.fnOf "check_start" "check_start" (defArgs scheckstart) (defBody scheckstart) (defScope scheckstart) .none kVcheckstart dccheckstart pmcheckstart ancheckstart cdcheckstart ctcheckstart
    fcheckstart := fun_mk (st := scheckstart) lcheckstart qcheckstart kcheckstart
    bcheckstart := (fun_mk (st := scheckstart) lcheckstart qcheckstart kcheckstart).binds (ps := ["jars", "start", "parts"]) fun _ _ _ _ _ _ us hl => match us, hl with | [_, _, _], _ => rfl
    gbehinddeed := PySem.W.mg_of X G abehinddeed
    abehinddeed := fbehinddeed
    dbehinddeed := PySem.W.fnOf "behind_deed" "behind_deed" (defArgs sbehinddeed) (defBody sbehinddeed) (defScope sbehinddeed) .none kVbehinddeed dcbehinddeed pmbehinddeed anbehinddeed cdbehinddeed ctbehinddeed
    fbehinddeed := fun_mk (st := sbehinddeed) lbehinddeed qbehinddeed kbehinddeed
    bbehinddeed := (fun_mk (st := sbehinddeed) lbehinddeed qbehinddeed kbehinddeed).binds (ps := ["jars", "deed", "stand", "parts"]) fun _ _ _ _ _ _ us hl => match us, hl with | [_, _, _, _], _ => rfl
    gbehindround := PySem.W.mg_of X G abehindround
    abehindround := fbehindround
    dbehindround := PySem.W.fnOf "behind_round" "behind_round" (defArgs sbehindround) (defBody sbehindround) (defScope sbehindround) .none kVbehindround dcbehindround pmbehindround anbehindround cdbehindround ctbehindround
    fbehindround := fun_mk (st := sbehindround) lbehindround qbehindround kbehindround
    bbehindround := (fun_mk (st := sbehindround) lbehindround qbehindround kbehindround).binds (ps := ["row", "stand", "parts"]) fun _ _ _ _ _ _ us hl => match us, hl with | [_, _, _], _ => rfl
    gfate := PySem.W.mg_of X G afate
    afate := ffate
    dfate := PySem.W.fnOf "fate" "fate" (defArgs sfate) (defBody sfate) (defScope sfate) .none (.ref Dfate) dcfate pmfate anfate cdfate ctfate
    ffate := funD1 lfate qfate kfate wfate_parts
    gLcellat := PySem.W.mg_of X G aLcellat
    aLcellat := fLcellat
    dLcellat := PySem.W.fnOf "_law_cell_at" "_law_cell_at" (defArgs sLcellat) (defBody sLcellat) (defScope sLcellat) .none kVLcellat dcLcellat pmLcellat anLcellat cdLcellat ctLcellat
    fLcellat := fun_mk (st := sLcellat) lLcellat qLcellat kLcellat
    bLcellat := (fun_mk (st := sLcellat) lLcellat qLcellat kLcellat).binds (ps := ["_law_script", "_law_k"]) fun _ _ _ _ _ _ us hl => match us, hl with | [_, _], _ => rfl
    gLwell := PySem.W.mg_of X G aLwell
    aLwell := fLwell
    dLwell := PySem.W.fnOf "_law_well" "_law_well" (defArgs sLwell) (defBody sLwell) (defScope sLwell) .none kVLwell dcLwell pmLwell anLwell cdLwell ctLwell
    fLwell := fun_mk (st := sLwell) lLwell qLwell kLwell
    bLwell := (fun_mk (st := sLwell) lLwell qLwell kLwell).binds (ps := ["_law_cell"]) fun _ _ _ _ _ _ us hl => match us, hl with | [_], _ => rfl
    gLdraw := PySem.W.mg_of X G aLdraw
    aLdraw := fLdraw
    dLdraw := PySem.W.fnOf "_law_draw" "_law_draw" (defArgs sLdraw) (defBody sLdraw) (defScope sLdraw) .none kVLdraw dcLdraw pmLdraw anLdraw cdLdraw ctLdraw
    fLdraw := fun_mk (st := sLdraw) lLdraw qLdraw kLdraw
    bLdraw := (fun_mk (st := sLdraw) lLdraw qLdraw kLdraw).binds (ps := ["_law_well_here", "_law_size"]) fun _ _ _ _ _ _ us hl => match us, hl with | [_, _], _ => rfl
    gLof := PySem.W.mg_of X G aLof
    aLof := fLof
    dLof := PySem.W.fnOf "_law_of" "_law_of" (defArgs sLof) (defBody sLof) (defScope sLof) .none kVLof dcLof pmLof anLof cdLof ctLof
    fLof := fun_mk (st := sLof) lLof qLof kLof
    bLof := (fun_mk (st := sLof) lLof qLof kLof).binds (ps := ["_law_well_here", "_law_some"]) fun _ _ _ _ _ _ us hl => match us, hl with | [_, _], _ => rfl
    gLdeedmade := PySem.W.mg_of X G aLdeedmade
    aLdeedmade := fLdeedmade
    dLdeedmade := PySem.W.fnOf "_law_deed_made" "_law_deed_made" (defArgs sLdeedmade) (defBody sLdeedmade) (defScope sLdeedmade) .none kVLdeedmade dcLdeedmade pmLdeedmade anLdeedmade cdLdeedmade ctLdeedmade
    fLdeedmade := fun_mk (st := sLdeedmade) lLdeedmade qLdeedmade kLdeedmade
    bLdeedmade := (fun_mk (st := sLdeedmade) lLdeedmade qLdeedmade kLdeedmade).binds (ps := ["_law_word", "_law_a", "_law_last"]) fun _ _ _ _ _ _ us hl => match us, hl with | [_, _, _], _ => rfl
    gLrow := PySem.W.mg_of X G aLrow
    aLrow := fLrow
    dLrow := PySem.W.fnOf "_law_row" "_law_row" (defArgs sLrow) (defBody sLrow) (defScope sLrow) .none kVLrow dcLrow pmLrow anLrow cdLrow ctLrow
    fLrow := fun_mk (st := sLrow) lLrow qLrow kLrow
    bLrow := (fun_mk (st := sLrow) lLrow qLrow kLrow).binds (ps := ["_law_sizes", "_law_deeds"]) fun _ _ _ _ _ _ us hl => match us, hl with | [_, _], _ => rfl
    gLonce := PySem.W.mg_of X G aLonce
    aLonce := fLonce
    dLonce := PySem.W.fnOf "_law_once" "_law_once" (defArgs sLonce) (defBody sLonce) (defScope sLonce) .none kVLonce dcLonce pmLonce anLonce cdLonce ctLonce
    fLonce := fun_mk (st := sLonce) lLonce qLonce kLonce
    bLonce := (fun_mk (st := sLonce) lLonce qLonce kLonce).binds (ps := ["_law_sizes", "_law_deeds", "_law_begun", "_law_shares"]) fun _ _ _ _ _ _ us hl => match us, hl with | [_, _, _, _], _ => rfl
    gLgreat := PySem.W.mg_of X G aLgreat
    aLgreat := fLgreat
    dLgreat := PySem.W.fnOf "_law_great" "_law_great" (defArgs sLgreat) (defBody sLgreat) (defScope sLgreat) .none kVLgreat dcLgreat pmLgreat anLgreat cdLgreat ctLgreat
    fLgreat := fun_mk (st := sLgreat) lLgreat qLgreat kLgreat
    bLgreat := (fun_mk (st := sLgreat) lLgreat qLgreat kLgreat).binds (ps := ["_law_well_here"]) fun _ _ _ _ _ _ us hl => match us, hl with | [_], _ => rfl
    gLover := PySem.W.mg_of X G aLover
    aLover := fLover
    dLover := PySem.W.fnOf "_law_over" "_law_over" (defArgs sLover) (defBody sLover) (defScope sLover) .none kVLover dcLover pmLover anLover cdLover ctLover
    fLover := fun_mk (st := sLover) lLover qLover kLover
    bLover := (fun_mk (st := sLover) lLover qLover kLover).binds (ps := ["_law_number", "_law_by"]) fun _ _ _ _ _ _ us hl => match us, hl with | [_, _], _ => rfl
    gLriseright := PySem.W.mg_of X G aLriseright
    aLriseright := fLriseright
    dLriseright := PySem.W.fnOf "_law_rise_right" "_law_rise_right" (defArgs sLriseright) (defBody sLriseright) (defScope sLriseright) .none kVLriseright dcLriseright pmLriseright anLriseright cdLriseright ctLriseright
    fLriseright := fun_mk (st := sLriseright) lLriseright qLriseright kLriseright
    bLriseright := (fun_mk (st := sLriseright) lLriseright qLriseright kLriseright).binds (ps := ["_law_well_here", "_law_is_up"]) fun _ _ _ _ _ _ us hl => match us, hl with | [_, _], _ => rfl
    gLchangesright := PySem.W.mg_of X G aLchangesright
    aLchangesright := fLchangesright
    dLchangesright := PySem.W.fnOf "_law_changes_right" "_law_changes_right" (defArgs sLchangesright) (defBody sLchangesright) (defScope sLchangesright) .none kVLchangesright dcLchangesright pmLchangesright anLchangesright cdLchangesright ctLchangesright
    fLchangesright := fun_mk (st := sLchangesright) lLchangesright qLchangesright kLchangesright
    bLchangesright := (fun_mk (st := sLchangesright) lLchangesright qLchangesright kLchangesright).binds (ps := ["_law_well_here"]) fun _ _ _ _ _ _ us hl => match us, hl with | [_], _ => rfl
    gLpouredright := PySem.W.mg_of X G aLpouredright
    aLpouredright := fLpouredright
    dLpouredright := PySem.W.fnOf "_law_poured_right" "_law_poured_right" (defArgs sLpouredright) (defBody sLpouredright) (defScope sLpouredright) .none kVLpouredright dcLpouredright pmLpouredright anLpouredright cdLpouredright ctLpouredright
    fLpouredright := fun_mk (st := sLpouredright) lLpouredright qLpouredright kLpouredright
    bLpouredright := (fun_mk (st := sLpouredright) lLpouredright qLpouredright kLpouredright).binds (ps := ["_law_well_here"]) fun _ _ _ _ _ _ us hl => match us, hl with | [_], _ => rfl
    glaw := PySem.W.mg_of X G alaw
    alaw := fa
    dlaw := PySem.W.fnOf "law" "law" (defArgs slaw) (defBody slaw) (defScope slaw) .none kVlaw dclaw pmlaw anlaw cdlaw ctlaw
    flaw := fun_mk (st := slaw) llaw qlaw klaw
    blaw := (fun_mk (st := slaw) llaw qlaw klaw).binds (ps := ["_law_script"]) fun _ _ _ _ _ _ us hl => match us, hl with | [_], _ => rfl
    lJars := ⟨pgJars, hdJars, poJars, saJars⟩
    kJars := ⟨mkJars, aJarsInit, iJarsInit, kcJars⟩
    nJars_sizes := nJars_sizes
    lPour := ⟨pgPour, hdPour, poPour, saPour⟩
    kPour := ⟨mkPour, aPourInit, iPourInit, kcPour⟩
    nPour_a := nPour_a
    nPour_b := nPour_b
    lPut := ⟨pgPut, hdPut, poPut, saPut⟩
    kPut := ⟨mkPut, aPutInit, iPutInit, kcPut⟩
    nPut_a := nPut_a
    nPut_k := nPut_k
    lDraw := ⟨pgDraw, hdDraw, poDraw, saDraw⟩
    kDraw := ⟨mkDraw, aDrawInit, iDrawInit, kcDraw⟩
    nDraw_a := nDraw_a
    nDraw_k := nDraw_k
    lChange := ⟨pgChange, hdChange, poChange, saChange⟩
    kChange := ⟨mkChange, aChangeInit, iChangeInit, kcChange⟩
    nChange_a := nChange_a
    nChange_b := nChange_b
    lRow := ⟨pgRow, hdRow, poRow, saRow⟩
    kRow := ⟨mkRow, aRowInit, iRowInit, kcRow⟩
    nRow_jars := nRow_jars
    nRow_deeds := nRow_deeds
    yChange := ⟨yaChange, yn, yt, ymChange⟩
    yDraw := ⟨yaDraw, yn, yt, ymDraw⟩
    yPour := ⟨yaPour, yn, yt, ymPour⟩
    yPut := ⟨yaPut, yn, yt, ymPut⟩
    iPour_Put := isPour_Put
    iPour_Draw := isPour_Draw
    iPour_Pour := isPour_Pour
    iPour_Change := isPour_Change
    iPut_Put := isPut_Put
    iPut_Draw := isPut_Draw
    iPut_Pour := isPut_Pour
    iPut_Change := isPut_Change
    iDraw_Put := isDraw_Put
    iDraw_Draw := isDraw_Draw
    iDraw_Pour := isDraw_Pour
    iDraw_Change := isDraw_Change
    iChange_Put := isChange_Put
    iChange_Draw := isChange_Draw
    iChange_Pour := isChange_Pour
    iChange_Change := isChange_Change
    tMOSTJARS := tkMOSTJARS
    cMOSTJARS := PySem.W.mg_of X G gMOSTJARS
    tMOSTDEEDS := tkMOSTDEEDS
    cMOSTDEEDS := PySem.W.mg_of X G gMOSTDEEDS
    tMOSTMUCH := tkMOSTMUCH
    cMOSTMUCH := PySem.W.mg_of X G gMOSTMUCH
    tMOSTROUNDS := tkMOSTROUNDS
    cMOSTROUNDS := PySem.W.mg_of X G gMOSTROUNDS
    nenumerate := PySem.W.mg_none_of X G zenumerate
    nint := PySem.W.mg_none_of X G zint
    nisinstance := PySem.W.mg_none_of X G zisinstance
    nlen := PySem.W.mg_none_of X G zlen
    nlist := PySem.W.mg_none_of X G zlist
    nmax := PySem.W.mg_none_of X G zmax
    nmin := PySem.W.mg_none_of X G zmin
    nrange := PySem.W.mg_none_of X G zrange
    nsum := PySem.W.mg_none_of X G zsum
    ntuple := PySem.W.mg_none_of X G ztuple }⟩
theorem walk {l : PySem.W.OpenLaw} {q : Program} {loose : List Str} {XP : (Str → Option Value) → Heap → Prop} {YP : World → Heap → Prop} {d : DefRec} {K : Params → PySem.W.Frag} (hn : l.most = some 63) (hdf : d.params.defaults = [])
    (hY : ∀ (w : World) (h : Heap), YP w h → (K w.params).In h)
    (F : ∀ (w : World) (mg : Str → Option Value) (fa : Addr) (h : Heap), (K w.params).In h → h.Ns mainGlobals mg → mg d.name = some (.ref fa) →
      ∃ fd : FuncData, (∀ (s : Shared) (u : Value), BindsTo s fd ⟨[u], []⟩ [("_law_script", u)]) ∧ ∀ base : Heap, (K w.params).In base → base.Ns mainGlobals mg → FnOk l.prog w (K w.params) mg base CX0 7 fa fd ["_law_script"] (spLaw (K w.params))) :
    PySem.W.WalkO q loose XP YP l.row.toRowW d [] (fun f vs => PySem.call f vs) :=
  L2.walk_of (n := 63) (k := 7) (x := "_law_script") (CX := fun _ => CX0) (sp := fun w => spLaw (K w.params)) hn (by decide) hdf ⟨rfl, by decide, by decide⟩ hY F (fun _ _ a ns hl _ hS => ⟨a, ns, rfl, hS, hl, fun _ => rfl⟩) fun _ _ _ _ _ z => z
end Kp


open PySem PySem.W PyProof.Rows
set_option maxRecDepth 100000 in
set_option maxHeartbeats 0 in
theorem PySem.Challenge.cw_wholedrops_k56_rounds_of_great_jars_holds : PySem.Challenge.rw_wholedrops_k56_rounds_of_great_jars.Holds := by
  w_on; o_law; k_head; (case hw => w_witness2)
  k_fill
  refine Kp.walk (l := PySem.Challenge.rw_wholedrops_k56_rounds_of_great_jars) rfl rfl (fun w h Y => PySem.W.kIn_of Y) ?F
  case F =>
    intro w mg fa h KX G hmg
    refine' Kp.all_mk KX G hmg ?xJars ?xPour ?xPut ?xDraw ?xChange ?xRow ?acheckmuch ?lcheckmuch ?qcheckmuch ?kcheckmuch ?acheckjar ?lcheckjar ?qcheckjar ?kcheckjar ?acheckdeed ?lcheckdeed ?qcheckdeed ?kcheckdeed ?aJarsInit ?iJarsInit ?lJarsInit ?qJarsInit ?kJarsInit ?aPourInit ?iPourInit ?lPourInit ?qPourInit ?kPourInit ?aPutInit ?iPutInit ?lPutInit ?qPutInit ?kPutInit ?aDrawInit ?iDrawInit ?lDrawInit ?qDrawInit ?kDrawInit ?aChangeInit ?iChangeInit ?lChangeInit ?qChangeInit ?kChangeInit ?aRowInit ?iRowInit ?lRowInit ?qRowInit ?kRowInit ?acheckstart ?lcheckstart ?qcheckstart ?kcheckstart ?abehinddeed ?lbehinddeed ?qbehinddeed ?kbehinddeed ?abehindround ?lbehindround ?qbehindround ?kbehindround ?afate ?lfate ?qfate ?kfate ?wfate_parts ?aLcellat ?lLcellat ?qLcellat ?kLcellat ?aLwell ?lLwell ?qLwell ?kLwell ?aLdraw ?lLdraw ?qLdraw ?kLdraw ?aLof ?lLof ?qLof ?kLof ?aLdeedmade ?lLdeedmade ?qLdeedmade ?kLdeedmade ?aLrow ?lLrow ?qLrow ?kLrow ?aLonce ?lLonce ?qLonce ?kLonce ?aLgreat ?lLgreat ?qLgreat ?kLgreat ?aLover ?lLover ?qLover ?kLover ?aLriseright ?lLriseright ?qLriseright ?kLriseright ?aLchangesright ?lLchangesright ?qLchangesright ?kLchangesright ?aLpouredright ?lLpouredright ?qLpouredright ?kLpouredright ?alaw ?llaw ?qlaw ?klaw ?pgJars ?hdJars ?poJars ?saJars ?mkJars ?kcJars ?nJars_sizes ?pgPour ?hdPour ?poPour ?saPour ?mkPour ?kcPour ?nPour_a ?nPour_b ?pgPut ?hdPut ?poPut ?saPut ?mkPut ?kcPut ?nPut_a ?nPut_k ?pgDraw ?hdDraw ?poDraw ?saDraw ?mkDraw ?kcDraw ?nDraw_a ?nDraw_k ?pgChange ?hdChange ?poChange ?saChange ?mkChange ?kcChange ?nChange_a ?nChange_b ?pgRow ?hdRow ?poRow ?saRow ?mkRow ?kcRow ?nRow_jars ?nRow_deeds ?yaChange ?ymChange ?yaDraw ?ymDraw ?yaPour ?ymPour ?yaPut ?ymPut ?yn ?yt ?isPour_Put ?isPour_Draw ?isPour_Pour ?isPour_Change ?isPut_Put ?isPut_Draw ?isPut_Pour ?isPut_Change ?isDraw_Put ?isDraw_Draw ?isDraw_Pour ?isDraw_Change ?isChange_Put ?isChange_Draw ?isChange_Pour ?isChange_Change ?gMOSTJARS ?gMOSTDEEDS ?gMOSTMUCH ?gMOSTROUNDS ?zenumerate ?zint ?zisinstance ?zlen ?zlist ?zmax ?zmin ?zrange ?zsum ?ztuple
    (case xJars => k_is)
    (case xPour => k_is)
    (case xPut => k_is)
    (case xDraw => k_is)
    (case xChange => k_is)
    (case xRow => k_is)
    (case acheckmuch => k_is)
    (case lcheckmuch => k_is)
    (case qcheckmuch => k_is)
    (case kcheckmuch => k_is)
    (case acheckjar => k_is)
    (case lcheckjar => k_is)
    (case qcheckjar => k_is)
    (case kcheckjar => k_is)
    (case acheckdeed => k_is)
    (case lcheckdeed => k_is)
    (case qcheckdeed => k_is)
    (case kcheckdeed => k_is)
    (case aJarsInit => k_is)
    (case iJarsInit => k_is)
    (case lJarsInit => k_is)
    (case qJarsInit => k_is)
    (case kJarsInit => k_is)
    (case aPourInit => k_is)
    (case iPourInit => k_is)
    (case lPourInit => k_is)
    (case qPourInit => k_is)
    (case kPourInit => k_is)
    (case aPutInit => k_is)
    (case iPutInit => k_is)
    (case lPutInit => k_is)
    (case qPutInit => k_is)
    (case kPutInit => k_is)
    (case aDrawInit => k_is)
    (case iDrawInit => k_is)
    (case lDrawInit => k_is)
    (case qDrawInit => k_is)
    (case kDrawInit => k_is)
    (case aChangeInit => k_is)
    (case iChangeInit => k_is)
    (case lChangeInit => k_is)
    (case qChangeInit => k_is)
    (case kChangeInit => k_is)
    (case aRowInit => k_is)
    (case iRowInit => k_is)
    (case lRowInit => k_is)
    (case qRowInit => k_is)
    (case kRowInit => k_is)
    (case acheckstart => k_is)
    (case lcheckstart => k_is)
    (case qcheckstart => k_is)
    (case kcheckstart => k_is)
    (case abehinddeed => k_is)
    (case lbehinddeed => k_is)
    (case qbehinddeed => k_is)
    (case kbehinddeed => k_is)
    (case abehindround => k_is)
    (case lbehindround => k_is)
    (case qbehindround => k_is)
    (case kbehindround => k_is)
    (case afate => k_is)
    (case lfate => k_is)
    (case qfate => k_is)
    (case kfate => k_is)
    (case wfate_parts => k_is)
    (case aLcellat => k_is)
    (case lLcellat => k_is)
    (case qLcellat => k_is)
    (case kLcellat => k_is)
    (case aLwell => k_is)
    (case lLwell => k_is)
    (case qLwell => k_is)
    (case kLwell => k_is)
    (case aLdraw => k_is)
    (case lLdraw => k_is)
    (case qLdraw => k_is)
    (case kLdraw => k_is)
    (case aLof => k_is)
    (case lLof => k_is)
    (case qLof => k_is)
    (case kLof => k_is)
    (case aLdeedmade => k_is)
    (case lLdeedmade => k_is)
    (case qLdeedmade => k_is)
    (case kLdeedmade => k_is)
    (case aLrow => k_is)
    (case lLrow => k_is)
    (case qLrow => k_is)
    (case kLrow => k_is)
    (case aLonce => k_is)
    (case lLonce => k_is)
    (case qLonce => k_is)
    (case kLonce => k_is)
    (case aLgreat => k_is)
    (case lLgreat => k_is)
    (case qLgreat => k_is)
    (case kLgreat => k_is)
    (case aLover => k_is)
    (case lLover => k_is)
    (case qLover => k_is)
    (case kLover => k_is)
    (case aLriseright => k_is)
    (case lLriseright => k_is)
    (case qLriseright => k_is)
    (case kLriseright => k_is)
    (case aLchangesright => k_is)
    (case lLchangesright => k_is)
    (case qLchangesright => k_is)
    (case kLchangesright => k_is)
    (case aLpouredright => k_is)
    (case lLpouredright => k_is)
    (case qLpouredright => k_is)
    (case kLpouredright => k_is)
    (case alaw => k_is)
    (case llaw => k_is)
    (case qlaw => k_is)
    (case klaw => k_is)
    (case pgJars => k_is)
    (case hdJars => k_is)
    (case poJars => k_is)
    (case saJars => k_is)
    (case mkJars => k_is)
    (case kcJars => k_is)
    (case nJars_sizes => k_is)
    (case pgPour => k_is)
    (case hdPour => k_is)
    (case poPour => k_is)
    (case saPour => k_is)
    (case mkPour => k_is)
    (case kcPour => k_is)
    (case nPour_a => k_is)
    (case nPour_b => k_is)
    (case pgPut => k_is)
    (case hdPut => k_is)
    (case poPut => k_is)
    (case saPut => k_is)
    (case mkPut => k_is)
    (case kcPut => k_is)
    (case nPut_a => k_is)
    (case nPut_k => k_is)
    (case pgDraw => k_is)
    (case hdDraw => k_is)
    (case poDraw => k_is)
    (case saDraw => k_is)
    (case mkDraw => k_is)
    (case kcDraw => k_is)
    (case nDraw_a => k_is)
    (case nDraw_k => k_is)
    (case pgChange => k_is)
    (case hdChange => k_is)
    (case poChange => k_is)
    (case saChange => k_is)
    (case mkChange => k_is)
    (case kcChange => k_is)
    (case nChange_a => k_is)
    (case nChange_b => k_is)
    (case pgRow => k_is)
    (case hdRow => k_is)
    (case poRow => k_is)
    (case saRow => k_is)
    (case mkRow => k_is)
    (case kcRow => k_is)
    (case nRow_jars => k_is)
    (case nRow_deeds => k_is)
    (case yaChange => k_is)
    (case ymChange => k_is)
    (case yaDraw => k_is)
    (case ymDraw => k_is)
    (case yaPour => k_is)
    (case ymPour => k_is)
    (case yaPut => k_is)
    (case ymPut => k_is)
    (case yn => k_is)
    (case yt => k_is)
    (case isPour_Put => (exact KpR.kit_cls (by k_is) (by k_is) (by k_is) (by decide)))
    (case isPour_Draw => (exact KpR.kit_cls (by k_is) (by k_is) (by k_is) (by decide)))
    (case isPour_Pour => exact KpR.kit_self (by simp))
    (case isPour_Change => (exact KpR.kit_cls (by k_is) (by k_is) (by k_is) (by decide)))
    (case isPut_Put => exact KpR.kit_self (by simp))
    (case isPut_Draw => (exact KpR.kit_cls (by k_is) (by k_is) (by k_is) (by decide)))
    (case isPut_Pour => (exact KpR.kit_cls (by k_is) (by k_is) (by k_is) (by decide)))
    (case isPut_Change => (exact KpR.kit_cls (by k_is) (by k_is) (by k_is) (by decide)))
    (case isDraw_Put => (exact KpR.kit_cls (by k_is) (by k_is) (by k_is) (by decide)))
    (case isDraw_Draw => exact KpR.kit_self (by simp))
    (case isDraw_Pour => (exact KpR.kit_cls (by k_is) (by k_is) (by k_is) (by decide)))
    (case isDraw_Change => (exact KpR.kit_cls (by k_is) (by k_is) (by k_is) (by decide)))
    (case isChange_Put => (exact KpR.kit_cls (by k_is) (by k_is) (by k_is) (by decide)))
    (case isChange_Draw => (exact KpR.kit_cls (by k_is) (by k_is) (by k_is) (by decide)))
    (case isChange_Pour => (exact KpR.kit_cls (by k_is) (by k_is) (by k_is) (by decide)))
    (case isChange_Change => exact KpR.kit_self (by simp))
    (case gMOSTJARS => k_is)
    (case gMOSTDEEDS => k_is)
    (case gMOSTMUCH => k_is)
    (case gMOSTROUNDS => k_is)
    (case zenumerate => k_is)
    (case zint => k_is)
    (case zisinstance => k_is)
    (case zlen => k_is)
    (case zlist => k_is)
    (case zmax => k_is)
    (case zmin => k_is)
    (case zrange => k_is)
    (case zsum => k_is)
    (case ztuple => k_is)


