import PyProof.Rows.All
import Wide.All
import OpenK.AllK
import Wide.FinOn
import HandS.ForMost
import HandS.Defaults
import HandS.MakeKwOnly
import HandS.IsInst
import HandS.Wide
import HandS.Style
import HandS.Zip
import HandS.Codes
import PySem.Challenge.RW_wholedrops_k90_whole_never_farther_never
set_option Elab.async false
set_option linter.all false
set_option maxRecDepth 100000
set_option maxHeartbeats 4000000
namespace Kp
/-! ### an if whose test is a Bool -/
theorem ifT {c : Bool} {A B : Prop} (hc : c = true) (h : A) : if c = true then A else B := by
  rw [if_pos hc]
  exact h
theorem ifF {c : Bool} {A B : Prop} (hc : c = false) (h : B) : if c = true then A else B := by
  rw [hc, if_neg Bool.false_ne_true]
  exact h
theorem ifD {P A B : Prop} [Decidable P] (h1 : P → A) (h2 : ¬ P → B) : if decide P = true then A else B := by
  by_cases h : P
  · exact ifT (decide_eq_true h) (h1 h)
  · exact ifF (decide_eq_false h) (h2 h)
theorem ifN {P A B : Prop} [Decidable P] (h1 : P → B) (h2 : ¬ P → A) : if (!decide P) = true then A else B := by
  by_cases h : P
  · exact ifF (by rw [decide_eq_true h]; rfl) (h1 h)
  · exact ifT (by rw [decide_eq_false h]; rfl) (h2 h)
/-! ### lists of ints -/
def at0 (l : List Int) (i : Nat) : Int := l.getD i 0
theorem at0_get {l : List Int} {i : Nat} (h : i < l.length) : l[i]? = some (at0 l i) := by
  unfold at0
  rw [List.getD_eq_getElem?_getD, List.getElem?_eq_getElem h]
  rfl
theorem at0_of {l : List Int} {i : Nat} {v : Int} (h : l[i]? = some v) : at0 l i = v := by
  unfold at0
  rw [List.getD_eq_getElem?_getD, h]
  rfl
theorem at0_set {l : List Int} {i j : Nat} {v : Int} (h : i < l.length) : at0 (l.set i v) j = if i = j then v else at0 l j := by
  unfold at0
  rw [List.getD_eq_getElem?_getD, List.getD_eq_getElem?_getD, List.getElem?_set]
  by_cases e : i = j
  · subst e
    simp [h]
  · simp [e]
theorem at0_map {l : List Int} {f : Int → Int} {i : Nat} (h : i < l.length) : at0 (l.map f) i = f (at0 l i) := by
  have := at0_get h
  exact at0_of (by rw [List.getElem?_map, this]; rfl)
theorem ext0 {l m : List Int} (h : l.length = m.length) (e : ∀ i, i < l.length → at0 l i = at0 m i) : l = m := by
  apply List.ext_getElem? 
  intro i
  by_cases hi : i < l.length
  · rw [at0_get hi, at0_get (h ▸ hi), e i hi]
  · rw [List.getElem?_eq_none (by omega), List.getElem?_eq_none (by omega)]
/-! ### the deeds -/
inductive D where
  | pour (a b : Nat) | put (a : Nat) (k : Int) | draw (a : Nat) (k : Int) | change (a b : Nat)
  deriving DecidableEq
/-- what a deed must be for jars of these sizes -/
def D.ok (caps : List Int) : D → Prop
  | .pour a b => a < caps.length ∧ b < caps.length ∧ a ≠ b
  | .put a k => a < caps.length ∧ 1 ≤ k ∧ k ≤ 1000000000000
  | .draw a k => a < caps.length ∧ 1 ≤ k ∧ k ≤ 1000000000000
  | .change a b => a < caps.length ∧ b < caps.length ∧ a ≠ b ∧ at0 caps a = at0 caps b
/-- one deed, as behind_deed reckons it -/
def D.act (caps : List Int) (p : Int) (st : List Int) : D → List Int
  | .pour a b =>
    let m := if at0 caps b * p - at0 st b < at0 st a then at0 caps b * p - at0 st b else at0 st a
    (st.set a (at0 st a - m)).set b (at0 st b + m)
  | .put a k => st.set a (if at0 caps a * p < at0 st a + k * p then at0 caps a * p else at0 st a + k * p)
  | .draw a k => st.set a (if 0 > at0 st a - k * p then 0 else at0 st a - k * p)
  | .change a b => (st.set a (at0 st b)).set b (at0 st a)
def run (caps : List Int) (p : Int) (ds : List D) (st : List Int) : List Int := ds.foldl (D.act caps p) st
def runs (caps : List Int) (p : Int) (ds : List D) : Nat → List Int → List Int
  | 0, st => st
  | n + 1, st => run caps p ds (runs caps p ds n st)
/-- a start that can be -/
structure Stand (caps : List Int) (p : Int) (st : List Int) : Prop where
  len : st.length = caps.length
  lo : ∀ i, i < caps.length → 0 ≤ at0 st i
  hi : ∀ i, i < caps.length → at0 st i ≤ at0 caps i * p
structure Caps (caps : List Int) : Prop where
  l1 : 1 ≤ caps.length
  l6 : caps.length ≤ 6
  lo : ∀ i, i < caps.length → 1 ≤ at0 caps i
  hi : ∀ i, i < caps.length → at0 caps i ≤ 1000000000000
theorem act_len {caps st : List Int} {p : Int} {d : D} : (d.act caps p st).length = st.length := by
  cases d <;> simp [D.act]
theorem act_stand {caps st : List Int} {p : Int} {d : D} (hp : 1 ≤ p) (h : Stand caps p st) (hd : d.ok caps) : Stand caps p (d.act caps p st) := by
  have hl := h.len
  refine ⟨by rw [act_len, hl], ?_, ?_⟩
  all_goals
    intro i hi
    have z0 := h.lo i hi
    have z1 := h.hi i hi
    cases d with
    | pour a b =>
      obtain ⟨ha, hb, hab⟩ := hd
      have a0 := h.lo a ha
      have a1 := h.hi a ha
      have b0 := h.lo b hb
      have b1 := h.hi b hb
      simp only [D.act]
      rw [at0_set (by rw [List.length_set]; omega), at0_set (by omega)]
      by_cases e1 : b = i
      · subst e1
        rw [if_pos rfl]
        split <;> omega
      · rw [if_neg e1]
        by_cases e2 : a = i
        · subst e2
          rw [if_pos rfl]
          split <;> omega
        · rw [if_neg e2]
          omega
    | put a k =>
      obtain ⟨ha, hk, _⟩ := hd
      have a0 := h.lo a ha
      have a1 := h.hi a ha
      have kp : 0 ≤ k * p := Int.mul_nonneg (by omega) (by omega)
      simp only [D.act]
      rw [at0_set (by omega)]
      by_cases e1 : a = i
      · subst e1
        rw [if_pos rfl]
        split <;> omega
      · rw [if_neg e1]
        omega
    | draw a k =>
      obtain ⟨ha, hk, _⟩ := hd
      have a0 := h.lo a ha
      have a1 := h.hi a ha
      have kp : 0 ≤ k * p := Int.mul_nonneg (by omega) (by omega)
      simp only [D.act]
      rw [at0_set (by omega)]
      by_cases e1 : a = i
      · subst e1
        rw [if_pos rfl]
        split <;> omega
      · rw [if_neg e1]
        omega
    | change a b =>
      obtain ⟨ha, hb, hab, hs⟩ := hd
      have a0 := h.lo a ha
      have a1 := h.hi a ha
      have b0 := h.lo b hb
      have b1 := h.hi b hb
      simp only [D.act]
      rw [at0_set (by rw [List.length_set]; omega), at0_set (by omega)]
      by_cases e1 : b = i
      · subst e1
        rw [if_pos rfl]
        rw [hs] at a1
        omega
      · rw [if_neg e1]
        by_cases e2 : a = i
        · subst e2
          rw [if_pos rfl]
          rw [← hs] at b1
          omega
        · rw [if_neg e2]
          omega
theorem run_len {caps : List Int} {p : Int} : ∀ {ds : List D} {st : List Int}, (run caps p ds st).length = st.length
  | [], _ => rfl
  | d :: ds, st => (run_len (ds := ds) (st := d.act caps p st)).trans act_len
theorem run_stand {caps : List Int} {p : Int} (hp : 1 ≤ p) : ∀ {ds : List D} {st : List Int}, Stand caps p st → (∀ d ∈ ds, d.ok caps) → Stand caps p (run caps p ds st)
  | [], _, h, _ => h
  | d :: ds, st, h, hd => run_stand (ds := ds) hp (act_stand hp h (hd d (List.mem_cons_self ..))) fun e he => hd e (List.mem_cons_of_mem _ he)
theorem runs_stand {caps : List Int} {p : Int} (hp : 1 ≤ p) {ds : List D} (hd : ∀ d ∈ ds, d.ok caps) : ∀ {n : Nat} {st : List Int}, Stand caps p st → Stand caps p (runs caps p ds n st)
  | 0, _, h => h
  | n + 1, _, h => run_stand hp (runs_stand hp hd (n := n) h) hd
theorem run_app {caps : List Int} {p : Int} {ds es : List D} {st : List Int} : run caps p (ds ++ es) st = run caps p es (run caps p ds st) := List.foldl_append ..
theorem runs_add {caps : List Int} {p : Int} {ds : List D} : ∀ (m n : Nat) (st : List Int), runs caps p ds m (runs caps p ds n st) = runs caps p ds (n + m) st
  | 0, _, _ => rfl
  | m + 1, n, st => congrArg (run caps p ds) (runs_add m n st)
theorem runs_nil {caps : List Int} {p : Int} : ∀ (n : Nat) (st : List Int), runs caps p [] n st = st
  | 0, _ => rfl
  | n + 1, st => runs_nil n st
theorem run_snoc {caps : List Int} {p : Int} {ds : List D} {d : D} {i : Nat} {st : List Int} (h : ds[i]? = some d) : run caps p (ds.take (i + 1)) st = d.act caps p (run caps p (ds.take i) st) := by
  rw [List.take_add_one, h, run_app]
  rfl
end Kp

namespace Kp
theorem at0_app {l : List Int} {z : Int} {i : Nat} : at0 (l ++ [z]) i = if i < l.length then at0 l i else if i = l.length then z else 0 := by
  unfold at0
  rw [List.getD_eq_getElem?_getD, List.getD_eq_getElem?_getD]
  by_cases h : i < l.length
  · rw [if_pos h, List.getElem?_append_left h]
  · rw [if_neg h, List.getElem?_append_right (by omega)]
    by_cases e : i = l.length
    · subst e
      simp
    · rw [if_neg e, List.getElem?_eq_none (by simp; omega)]
      rfl
/-- sizes that are none too small, none too big -/
def Mid (caps : List Int) : Prop := ∀ c ∈ caps, 1 ≤ c ∧ c ≤ 1000000000000
theorem Mid.nil : Mid [] := fun c h => by cases h
theorem Mid.app {caps : List Int} {z : Int} (h : Mid caps) (h1 : 1 ≤ z) (h2 : z ≤ 1000000000000) : Mid (caps ++ [z]) := fun c hc => by
  rcases List.mem_append.mp hc with q | q
  · exact h c q
  · have : c = z := by simpa using q
    subst this
    exact ⟨h1, h2⟩
theorem at0_mem {l : List Int} {i : Nat} (h : i < l.length) : at0 l i ∈ l := List.mem_of_getElem? (at0_get h)
theorem Mid.set {caps : List Int} {i j : Nat} (h : Mid caps) (hj : j < caps.length) : Mid (caps.set i (at0 caps j)) := fun c hc => by
  rcases List.mem_or_eq_of_mem_set hc with q | q
  · exact h c q
  · rw [q]
    exact h _ (at0_mem hj)
theorem Mid.caps {caps : List Int} (h : Mid caps) (h1 : 1 ≤ caps.length) (h6 : caps.length ≤ 6) : Caps caps :=
  ⟨h1, h6, fun i hi => (h _ (at0_mem hi)).1, fun i hi => (h _ (at0_mem hi)).2⟩
/-- starts as far as they are made -/
structure Part (caps : List Int) (p : Int) (st : List Int) : Prop where
  lo : ∀ i, i < st.length → 0 ≤ at0 st i
  hi : ∀ i, i < st.length → at0 st i ≤ at0 caps i * p
theorem Part.nil {caps : List Int} {p : Int} : Part caps p [] := ⟨fun i h => absurd h (Nat.not_lt_zero _), fun i h => absurd h (Nat.not_lt_zero _)⟩
theorem Part.app {caps st : List Int} {p z : Int} (h : Part caps p st) (h0 : 0 ≤ z) (h1 : z ≤ at0 caps st.length * p) : Part caps p (st ++ [z]) := by
  refine ⟨fun i hi => ?_, fun i hi => ?_⟩
  all_goals
    rw [List.length_append] at hi
    rw [at0_app]
    by_cases q : i < st.length
    · rw [if_pos q]
      first | exact h.lo i q | exact h.hi i q
    · have e : i = st.length := by simp at hi; omega
      subst e
      rw [if_neg q, if_pos rfl]
      first | exact h0 | exact h1
theorem Part.stand {caps st : List Int} {p : Int} (h : Part caps p st) (hl : st.length = caps.length) : Stand caps p st :=
  ⟨hl, fun i hi => h.lo i (by omega), fun i hi => h.hi i (by omega)⟩
/-- the words of the deeds -/
inductive Wd where
  | pour | put | draw | change
  deriving DecidableEq
def sixW : List Wd := [.pour, .pour, .pour, .put, .draw, .change]
theorem unit_ok {n : Nat} (h : n < 6) : 1 ≤ at0 [1, 1, 1, 7, 1000000, 100000000000] n ∧ at0 [1, 1, 1, 7, 1000000, 100000000000] n ≤ 100000000000 := by
  have : ∀ n : Fin 6, 1 ≤ at0 [1, 1, 1, 7, 1000000, 100000000000] n.1 ∧ at0 [1, 1, 1, 7, 1000000, 100000000000] n.1 ≤ 100000000000 := by decide
  exact this ⟨n, h⟩
theorem pick4 {a b c d lo hi : Int} {n : Nat} (h : n < 4) (ha : lo ≤ a ∧ a ≤ hi) (hb : lo ≤ b ∧ b ≤ hi) (hc : lo ≤ c ∧ c ≤ hi) (hd : lo ≤ d ∧ d ≤ hi) : lo ≤ at0 [a, b, c, d] n ∧ at0 [a, b, c, d] n ≤ hi := by
  match n, h with
  | 0, _ => exact ha
  | 1, _ => exact hb
  | 2, _ => exact hc
  | 3, _ => exact hd
theorem pick5 {a b c d e lo hi : Int} {n : Nat} (h : n < 5) (ha : lo ≤ a ∧ a ≤ hi) (hb : lo ≤ b ∧ b ≤ hi) (hc : lo ≤ c ∧ c ≤ hi) (hd : lo ≤ d ∧ d ≤ hi) (he : lo ≤ e ∧ e ≤ hi) : lo ≤ at0 [a, b, c, d, e] n ∧ at0 [a, b, c, d, e] n ≤ hi := by
  match n, h with
  | 0, _ => exact ha
  | 1, _ => exact hb
  | 2, _ => exact hc
  | 3, _ => exact hd
  | 4, _ => exact he
end Kp

namespace Kp
def MidN (b : Int) (caps : List Int) : Prop := ∀ c ∈ caps, 1 ≤ c ∧ c ≤ b
theorem MidN.nil {b : Int} : MidN b [] := fun c h => by cases h
theorem MidN.app {b : Int} {caps : List Int} {z : Int} (h : MidN b caps) (h1 : 1 ≤ z) (h2 : z ≤ b) : MidN b (caps ++ [z]) := fun c hc => by
  rcases List.mem_append.mp hc with q | q
  · exact h c q
  · have : c = z := by simpa using q
    subst this
    exact ⟨h1, h2⟩
theorem MidN.set {b : Int} {caps : List Int} {i j : Nat} (h : MidN b caps) (hj : j < caps.length) : MidN b (caps.set i (at0 caps j)) := fun c hc => by
  rcases List.mem_or_eq_of_mem_set hc with q | q
  · exact h c q
  · rw [q]
    exact h _ (at0_mem hj)
theorem MidN.caps {b : Int} {caps : List Int} (h : MidN b caps) (hb : b ≤ 1000000000000) (h1 : 1 ≤ caps.length) (h6 : caps.length ≤ 6) : Caps caps :=
  ⟨h1, h6, fun i hi => (h _ (at0_mem hi)).1, fun i hi => Int.le_trans (h _ (at0_mem hi)).2 hb⟩
/-- the pour as the law's own walk reckons it -/
def stepL (caps : List Int) (p : Int) (st : List Int) : D → List Int
  | .pour a b =>
    let x := if at0 caps b * p < at0 st a + at0 st b then at0 caps b * p else at0 st a + at0 st b
    (st.set b x).set a (at0 st a + at0 st b - x)
  | .put a k => st.set a (if at0 caps a * p < at0 st a + k * p then at0 caps a * p else at0 st a + k * p)
  | .draw a k => st.set a (if 0 > at0 st a - k * p then 0 else at0 st a - k * p)
  | .change a b => (st.set a (at0 st b)).set b (at0 st a)
theorem stepL_act {caps st : List Int} {p : Int} {d : D} (hl : st.length = caps.length) (ok : d.ok caps) : stepL caps p st d = d.act caps p st := by
  cases d with
  | pour a b =>
    obtain ⟨ha, hb, hab⟩ := ok
    simp only [stepL, D.act]
    apply ext0
    · simp
    · intro i hi
      rw [at0_set (by rw [List.length_set]; omega), at0_set (by omega), at0_set (by rw [List.length_set]; omega), at0_set (by omega)]
      by_cases e1 : a = i
      · by_cases e2 : b = i
        · exact absurd (e1.trans e2.symm) hab
        · rw [if_pos e1, if_neg e2, if_pos e1]
          split <;> split <;> omega
      · by_cases e2 : b = i
        · rw [if_neg e1, if_pos e2, if_pos e2]
          split <;> split <;> omega
        · rw [if_neg e1, if_neg e2, if_neg e2, if_neg e1]
  | put a k => rfl
  | draw a k => rfl
  | change a b => rfl
theorem runs_len {caps : List Int} {p : Int} {ds : List D} : ∀ {n : Nat} {st : List Int}, (runs caps p ds n st).length = st.length
  | 0, _ => rfl
  | n + 1, st => run_len.trans (runs_len (n := n))
end Kp

namespace Kp
/-! ### amounts in finer parts, greater houses -/
def mulL (m : Int) (l : List Int) : List Int := l.map (· * m)
theorem at0_mul {m : Int} {l : List Int} {i : Nat} : at0 (mulL m l) i = at0 l i * m := by
  by_cases h : i < l.length
  · exact at0_map h
  · unfold at0 mulL
    rw [List.getD_eq_getElem?_getD, List.getD_eq_getElem?_getD, List.getElem?_eq_none (by simp; omega), List.getElem?_eq_none (by omega)]
    simp
def D.sc (m : Int) : D → D
  | .pour a b => .pour a b
  | .put a k => .put a (k * m)
  | .draw a k => .draw a (k * m)
  | .change a b => .change a b
theorem lt_mul {x y q : Int} (hq : 0 < q) : x * q < y * q ↔ x < y := ⟨fun h => Int.lt_of_mul_lt_mul_right h (Int.le_of_lt hq), fun h => Int.mul_lt_mul_of_pos_right h hq⟩
theorem min_mul {x y q : Int} (hq : 0 < q) : (if x * q < y * q then x * q else y * q) = (if x < y then x else y) * q := by
  by_cases h : x < y
  · rw [if_pos h, if_pos ((lt_mul hq).mpr h)]
  · rw [if_neg h, if_neg (fun z => h ((lt_mul hq).mp z))]
theorem max_mul {x q : Int} (hq : 0 < q) : (if 0 > x * q then 0 else x * q) = (if 0 > x then 0 else x) * q := by
  have e : x * q < 0 ↔ x < 0 := by
    have := @lt_mul x 0 q hq
    rwa [Int.zero_mul] at this
  by_cases h : 0 > x
  · rw [if_pos h, if_pos (e.mpr h), Int.zero_mul]
  · rw [if_neg h, if_neg (fun z => h (e.mp z))]
theorem act_sc {m p p' q : Int} (e : m * p' = p * q) (hq : 0 < q) {caps st : List Int} {d : D} : (d.sc m).act (mulL m caps) p' (mulL q st) = mulL q (d.act caps p st) := by
  have ec : ∀ x : Int, x * m * p' = x * p * q := fun x => by rw [Int.mul_assoc, e, Int.mul_assoc]
  cases d with
  | pour a b =>
    simp only [D.sc, D.act, at0_mul, ec]
    rw [← Int.sub_mul, min_mul hq]
    unfold mulL
    rw [List.map_set, List.map_set, Int.sub_mul, Int.add_mul]
  | put a k =>
    simp only [D.sc, D.act, at0_mul, ec]
    rw [← Int.add_mul, min_mul hq]
    unfold mulL
    rw [List.map_set]
  | draw a k =>
    simp only [D.sc, D.act, at0_mul, ec]
    rw [← Int.sub_mul, max_mul hq]
    unfold mulL
    rw [List.map_set]
  | change a b =>
    simp only [D.sc, D.act, at0_mul]
    unfold mulL
    rw [List.map_set, List.map_set]
theorem run_sc {m p p' q : Int} (e : m * p' = p * q) (hq : 0 < q) {caps : List Int} : ∀ {ds : List D} {st : List Int}, run (mulL m caps) p' (ds.map (D.sc m)) (mulL q st) = mulL q (run caps p ds st)
  | [], _ => rfl
  | d :: ds, st => by
    show run (mulL m caps) p' (ds.map (D.sc m)) ((d.sc m).act (mulL m caps) p' (mulL q st)) = mulL q (run caps p ds (d.act caps p st))
    rw [act_sc e hq]
    exact run_sc e hq
theorem runs_sc {m p p' q : Int} (e : m * p' = p * q) (hq : 0 < q) {caps : List Int} {ds : List D} : ∀ {n : Nat} {st : List Int}, runs (mulL m caps) p' (ds.map (D.sc m)) n (mulL q st) = mulL q (runs caps p ds n st)
  | 0, _ => rfl
  | n + 1, st => by
    show run (mulL m caps) p' (ds.map (D.sc m)) (runs (mulL m caps) p' (ds.map (D.sc m)) n (mulL q st)) = mulL q (run caps p ds (runs caps p ds n st))
    rw [runs_sc e hq, run_sc e hq]
theorem mulL_one (l : List Int) : mulL 1 l = l := by
  unfold mulL
  simp
theorem sc_one (ds : List D) : ds.map (D.sc 1) = ds := by
  have : D.sc 1 = id := by
    funext d
    cases d <;> simp [D.sc]
  rw [this, List.map_id]
theorem runs_fine {p q : Int} (hq : 0 < q) {caps st : List Int} {ds : List D} {n : Nat} : runs caps (p * q) ds n (mulL q st) = mulL q (runs caps p ds n st) := by
  have := @runs_sc 1 p (p * q) q (by rw [Int.one_mul]) hq caps ds n st
  rw [mulL_one, sc_one] at this
  exact this
theorem runs_wide {p q : Int} (hq : 0 < q) {caps st : List Int} {ds : List D} {n : Nat} : runs (mulL q caps) p (ds.map (D.sc q)) n (mulL q st) = mulL q (runs caps p ds n st) :=
  runs_sc (Int.mul_comm q p) hq
theorem runs_grain {p : Int} {caps st : List Int} {ds : List D} {n : Nat} : runs (mulL p caps) 1 (ds.map (D.sc p)) n st = runs caps p ds n st := by
  have := @runs_sc p p 1 1 rfl (by decide) caps ds n st
  rw [mulL_one, mulL_one] at this
  exact this
theorem stand_fine {caps st : List Int} {p q : Int} (hq : 0 < q) (h : Stand caps p st) : Stand caps (p * q) (mulL q st) := by
  refine ⟨by unfold mulL; rw [List.length_map, h.len], fun i hi => ?_, fun i hi => ?_⟩
  · rw [at0_mul]
    exact Int.mul_nonneg (h.lo i hi) (Int.le_of_lt hq)
  · rw [at0_mul, ← Int.mul_assoc]
    exact Int.mul_le_mul_of_nonneg_right (h.hi i hi) (Int.le_of_lt hq)
theorem stand_wide {caps st : List Int} {p q : Int} (hq : 0 < q) (h : Stand caps p st) : Stand (mulL q caps) p (mulL q st) := by
  have ll : (mulL q caps).length = caps.length := by unfold mulL; rw [List.length_map]
  refine ⟨by rw [ll]; unfold mulL; rw [List.length_map, h.len], fun i hi => ?_, fun i hi => ?_⟩
  · rw [at0_mul]
    exact Int.mul_nonneg (h.lo i (by omega)) (Int.le_of_lt hq)
  · rw [at0_mul, at0_mul, Int.mul_assoc, Int.mul_comm q p, ← Int.mul_assoc]
    exact Int.mul_le_mul_of_nonneg_right (h.hi i (by omega)) (Int.le_of_lt hq)
theorem stand_grain {caps st : List Int} {p : Int} (h : Stand caps p st) : Stand (mulL p caps) 1 st := by
  have ll : (mulL p caps).length = caps.length := by unfold mulL; rw [List.length_map]
  refine ⟨by rw [ll, h.len], fun i hi => h.lo i (by omega), fun i hi => ?_⟩
  rw [at0_mul, Int.mul_one]
  exact h.hi i (by omega)
theorem caps_mul {caps : List Int} {q : Int} (h : Caps caps) (h12 : ∀ i, i < caps.length → at0 caps i ≤ 12) (q1 : 1 ≤ q) (q2 : q ≤ 70000000000) : Caps (mulL q caps) := by
  have ll : (mulL q caps).length = caps.length := by unfold mulL; rw [List.length_map]
  refine ⟨by rw [ll]; exact h.l1, by rw [ll]; exact h.l6, fun i hi => ?_, fun i hi => ?_⟩
  · rw [at0_mul]
    have := Int.mul_le_mul (h.lo i (by omega)) q1 (by decide) (by have := h.lo i (by omega); omega)
    simpa using this
  · rw [at0_mul]
    have := Int.mul_le_mul (h12 i (by omega)) q2 (by omega) (by decide)
    omega
end Kp

namespace Kp
theorem sum_set : ∀ {l : List Int} {i : Nat} {v : Int}, i < l.length → (l.set i v).sum = l.sum - at0 l i + v
  | [], i, v, h => absurd h (Nat.not_lt_zero _)
  | x :: l, 0, v, _ => by
    show v + l.sum = x + l.sum - x + v
    omega
  | x :: l, i + 1, v, h => by
    have ih := sum_set (l := l) (i := i) (v := v) (by simpa using h)
    show x + (l.set i v).sum = x + l.sum - at0 l i + v
    rw [ih]
    omega
def D.isPC : D → Bool
  | .pour _ _ => true
  | .change _ _ => true
  | _ => false
def D.putK : D → Option Int
  | .put _ k => some k
  | _ => none
def D.drawK : D → Option Int
  | .draw _ k => some k
  | _ => none
def D.up (p : Int) : D → Int
  | .put _ k => k * p
  | _ => 0
def D.dn (p : Int) : D → Int
  | .draw _ k => k * p
  | _ => 0
theorem act_sum {caps st : List Int} {p : Int} {d : D} (hp : 1 ≤ p) (h : Stand caps p st) (ok : d.ok caps) : st.sum - d.dn p ≤ (d.act caps p st).sum ∧ (d.act caps p st).sum ≤ st.sum + d.up p := by
  have hl := h.len
  cases d with
  | pour a b =>
    obtain ⟨ha, hb, hab⟩ := ok
    simp only [D.act, D.dn, D.up]
    rw [sum_set (by rw [List.length_set]; omega), sum_set (by omega), at0_set (by omega), if_neg hab]
    omega
  | put a k =>
    obtain ⟨ha, hk, _⟩ := ok
    have a0 := h.lo a ha
    have a1 := h.hi a ha
    have kp : 0 ≤ k * p := Int.mul_nonneg (by omega) (by omega)
    simp only [D.act, D.dn, D.up]
    rw [sum_set (by omega)]
    split <;> omega
  | draw a k =>
    obtain ⟨ha, hk, _⟩ := ok
    have a0 := h.lo a ha
    have kp : 0 ≤ k * p := Int.mul_nonneg (by omega) (by omega)
    simp only [D.act, D.dn, D.up]
    rw [sum_set (by omega)]
    split <;> omega
  | change a b =>
    obtain ⟨ha, hb, hab, _⟩ := ok
    simp only [D.act, D.dn, D.up]
    rw [sum_set (by rw [List.length_set]; omega), sum_set (by omega), at0_set (by omega), if_neg hab]
    omega
theorem run_sum {caps : List Int} {p : Int} (hp : 1 ≤ p) : ∀ {ds : List D} {st : List Int}, Stand caps p st → (∀ d ∈ ds, d.ok caps) →
    st.sum - (ds.map (D.dn p)).sum ≤ (run caps p ds st).sum ∧ (run caps p ds st).sum ≤ st.sum + (ds.map (D.up p)).sum
  | [], st, _, _ => by
    show st.sum - 0 ≤ st.sum ∧ st.sum ≤ st.sum + 0
    omega
  | d :: ds, st, h, ok => by
    have o1 := ok d (List.mem_cons_self ..)
    have a := act_sum hp h o1
    have b := run_sum (ds := ds) hp (act_stand hp h o1) fun e he => ok e (List.mem_cons_of_mem _ he)
    show st.sum - (d.dn p + (ds.map (D.dn p)).sum) ≤ (run caps p ds (d.act caps p st)).sum ∧ (run caps p ds (d.act caps p st)).sum ≤ st.sum + (d.up p + (ds.map (D.up p)).sum)
    omega
def putsL (ds : List D) : List Int := ds.filterMap D.putK
def drawsL (ds : List D) : List Int := ds.filterMap D.drawK
theorem ups {p : Int} : ∀ ds : List D, (ds.map (D.up p)).sum = p * (putsL ds).sum
  | [] => (Int.mul_zero p).symm
  | d :: ds => by
    have ih := ups (p := p) ds
    show d.up p + (ds.map (D.up p)).sum = p * (putsL (d :: ds)).sum
    rw [ih]
    cases d with
    | put a k =>
      show k * p + p * (putsL ds).sum = p * (k + (putsL ds).sum)
      rw [Int.mul_add, Int.mul_comm k p]
    | pour a b => exact Int.zero_add _
    | draw a k => exact Int.zero_add _
    | change a b => exact Int.zero_add _
theorem dns {p : Int} : ∀ ds : List D, (ds.map (D.dn p)).sum = p * (drawsL ds).sum
  | [] => (Int.mul_zero p).symm
  | d :: ds => by
    have ih := dns (p := p) ds
    show d.dn p + (ds.map (D.dn p)).sum = p * (drawsL (d :: ds)).sum
    rw [ih]
    cases d with
    | draw a k =>
      show k * p + p * (drawsL ds).sum = p * (k + (drawsL ds).sum)
      rw [Int.mul_add, Int.mul_comm k p]
    | pour a b => exact Int.zero_add _
    | put a k => exact Int.zero_add _
    | change a b => exact Int.zero_add _
theorem pc_sums {p : Int} {ds : List D} : ((ds.filter D.isPC).map (D.dn p)).sum = 0 ∧ ((ds.filter D.isPC).map (D.up p)).sum = 0 := by
  induction ds with
  | nil => exact ⟨rfl, rfl⟩
  | cons d ds ih =>
    cases d with
    | pour a b => exact ⟨(Int.zero_add _).trans ih.1, (Int.zero_add _).trans ih.2⟩
    | change a b => exact ⟨(Int.zero_add _).trans ih.1, (Int.zero_add _).trans ih.2⟩
    | put a k => exact ih
    | draw a k => exact ih
theorem runs_pc {caps : List Int} {p : Int} (hp : 1 ≤ p) {ds : List D} (ok : ∀ d ∈ ds, d.ok caps) : ∀ {n : Nat} {st : List Int}, Stand caps p st → (runs caps p (ds.filter D.isPC) n st).sum = st.sum
  | 0, _, _ => rfl
  | n + 1, st, h => by
    have ok' : ∀ d ∈ ds.filter D.isPC, d.ok caps := fun d hd => ok d (List.mem_filter.mp hd).1
    have ih := runs_pc hp ok (n := n) h
    have b := run_sum hp (runs_stand (n := n) hp ok' h) ok'
    have e := pc_sums (p := p) (ds := ds)
    show (run caps p (ds.filter D.isPC) (runs caps p (ds.filter D.isPC) n st)).sum = st.sum
    omega
/-- the jars that a deed names -/
def D.names : D → List Int
  | .pour a b => [(a : Int), (b : Int)]
  | .put a _ => [(a : Int)]
  | .draw a _ => [(a : Int)]
  | .change a b => [(a : Int), (b : Int)]
theorem act_else {caps st : List Int} {p : Int} {d : D} {i : Nat} (hl : st.length = caps.length) (ok : d.ok caps) (h : (i : Int) ∉ d.names) : at0 (d.act caps p st) i = at0 st i := by
  cases d with
  | pour a b =>
    obtain ⟨ha, hb, _⟩ := ok
    simp only [D.names, List.mem_cons, List.not_mem_nil, or_false, not_or] at h
    simp only [D.act]
    rw [at0_set (by rw [List.length_set]; omega), at0_set (by omega), if_neg (by omega), if_neg (by omega)]
  | put a k =>
    obtain ⟨ha, _⟩ := ok
    simp only [D.names, List.mem_cons, List.not_mem_nil, or_false] at h
    simp only [D.act]
    rw [at0_set (by omega), if_neg (by omega)]
  | draw a k =>
    obtain ⟨ha, _⟩ := ok
    simp only [D.names, List.mem_cons, List.not_mem_nil, or_false] at h
    simp only [D.act]
    rw [at0_set (by omega), if_neg (by omega)]
  | change a b =>
    obtain ⟨ha, hb, _⟩ := ok
    simp only [D.names, List.mem_cons, List.not_mem_nil, or_false, not_or] at h
    simp only [D.act]
    rw [at0_set (by rw [List.length_set]; omega), at0_set (by omega), if_neg (by omega), if_neg (by omega)]
theorem run_else {caps : List Int} {p : Int} {i : Nat} : ∀ {ds : List D} {st : List Int}, st.length = caps.length → (∀ d ∈ ds, d.ok caps) → (i : Int) ∉ ds.flatMap D.names → at0 (run caps p ds st) i = at0 st i
  | [], _, _, _, _ => rfl
  | d :: ds, st, hl, ok, h => by
    rw [List.flatMap_cons, List.mem_append, not_or] at h
    have e := run_else (p := p) (ds := ds) (st := d.act caps p st) (i := i) (act_len.trans hl) (fun e he => ok e (List.mem_cons_of_mem _ he)) h.2
    show at0 (run caps p ds (d.act caps p st)) i = at0 st i
    rw [e, act_else hl (ok d (List.mem_cons_self ..)) h.1]
theorem runs_else {caps : List Int} {p : Int} {i : Nat} {ds : List D} (ok : ∀ d ∈ ds, d.ok caps) (h : (i : Int) ∉ ds.flatMap D.names) : ∀ {n : Nat} {st : List Int}, st.length = caps.length → at0 (runs caps p ds n st) i = at0 st i
  | 0, _, _ => rfl
  | n + 1, st, hl => by
    show at0 (run caps p ds (runs caps p ds n st)) i = at0 st i
    rw [run_else (runs_len.trans hl) ok h, runs_else ok h hl]
end Kp

namespace Kp
/-- nowhere more -/
def Below (x y : List Int) : Prop := x.length = y.length ∧ ∀ i, i < x.length → at0 x i ≤ at0 y i
theorem act_below {caps x y : List Int} {p : Int} {d : D} (hp : 1 ≤ p) (hx : Stand caps p x) (hy : Stand caps p y) (ok : d.ok caps) (h : Below x y) : Below (d.act caps p x) (d.act caps p y) := by
  have lx := hx.len
  have ly := hy.len
  refine ⟨by rw [act_len, act_len, lx, ly], fun i hi => ?_⟩
  rw [act_len] at hi
  have hi0 := h.2 i hi
  cases d with
  | pour a b =>
    obtain ⟨ha, hb, hab⟩ := ok
    have a0 := h.2 a (by omega)
    have b0 := h.2 b (by omega)
    have xa := hx.hi b hb
    have ya := hy.hi b hb
    simp only [D.act]
    rw [at0_set (by rw [List.length_set]; omega), at0_set (by omega), at0_set (by rw [List.length_set]; omega), at0_set (by omega)]
    by_cases e1 : b = i
    · subst e1
      rw [if_pos rfl, if_pos rfl]
      split <;> split <;> omega
    · rw [if_neg e1, if_neg e1]
      by_cases e2 : a = i
      · subst e2
        rw [if_pos rfl, if_pos rfl]
        split <;> split <;> omega
      · rw [if_neg e2, if_neg e2]
        exact hi0
  | put a k =>
    obtain ⟨ha, hk, _⟩ := ok
    have a0 := h.2 a (by omega)
    simp only [D.act]
    rw [at0_set (by omega), at0_set (by omega)]
    by_cases e1 : a = i
    · subst e1
      rw [if_pos rfl, if_pos rfl]
      split <;> split <;> omega
    · rw [if_neg e1, if_neg e1]
      exact hi0
  | draw a k =>
    obtain ⟨ha, hk, _⟩ := ok
    have a0 := h.2 a (by omega)
    simp only [D.act]
    rw [at0_set (by omega), at0_set (by omega)]
    by_cases e1 : a = i
    · subst e1
      rw [if_pos rfl, if_pos rfl]
      split <;> split <;> omega
    · rw [if_neg e1, if_neg e1]
      exact hi0
  | change a b =>
    obtain ⟨ha, hb, hab, _⟩ := ok
    have a0 := h.2 a (by omega)
    have b0 := h.2 b (by omega)
    simp only [D.act]
    rw [at0_set (by rw [List.length_set]; omega), at0_set (by omega), at0_set (by rw [List.length_set]; omega), at0_set (by omega)]
    by_cases e1 : b = i
    · rw [if_pos e1, if_pos e1]
      exact a0
    · rw [if_neg e1, if_neg e1]
      by_cases e2 : a = i
      · rw [if_pos e2, if_pos e2]
        exact b0
      · rw [if_neg e2, if_neg e2]
        exact hi0
theorem run_below {caps : List Int} {p : Int} (hp : 1 ≤ p) : ∀ {ds : List D} {x y : List Int}, Stand caps p x → Stand caps p y → (∀ d ∈ ds, d.ok caps) → Below x y → Below (run caps p ds x) (run caps p ds y)
  | [], _, _, _, _, _, h => h
  | d :: ds, x, y, hx, hy, ok, h => by
    have od := ok d (List.mem_cons_self ..)
    exact run_below (ds := ds) (x := d.act caps p x) (y := d.act caps p y) hp (act_stand hp hx od) (act_stand hp hy od) (fun e he => ok e (List.mem_cons_of_mem _ he)) (act_below hp hx hy od h)
/-- the differences, by place -/
def difs (x y : List Int) : List Int := List.zipWith (fun a b => ((b - a).natAbs : Int)) x y
theorem difs_len {x y : List Int} (h : x.length = y.length) : (difs x y).length = x.length := by
  unfold difs
  rw [List.length_zipWith]
  omega
theorem difs_set : ∀ {x y : List Int} {i : Nat} {u v : Int}, difs (x.set i u) (y.set i v) = (difs x y).set i ((v - u).natAbs : Int)
  | [], [], _, _, _ => by simp [difs]
  | [], _ :: _, _, _, _ => by simp [difs]
  | _ :: _, [], _, _, _ => by simp [difs]
  | a :: x, b :: y, 0, u, v => by simp [difs]
  | a :: x, b :: y, i + 1, u, v => by
    have := difs_set (x := x) (y := y) (i := i) (u := u) (v := v)
    simp only [difs] at this
    simp [difs, this]
theorem difs_at {x y : List Int} {i : Nat} (hx : i < x.length) (hy : i < y.length) : at0 (difs x y) i = ((at0 y i - at0 x i).natAbs : Int) := by
  refine at0_of ?_
  unfold difs
  rw [List.getElem?_zipWith, at0_get hx, at0_get hy]
def apart (x y : List Int) : Int := (difs x y).sum
theorem apart_set {x y : List Int} {i : Nat} {u v : Int} (e : x.length = y.length) (h : i < x.length) : apart (x.set i u) (y.set i v) = apart x y - ((at0 y i - at0 x i).natAbs : Int) + ((v - u).natAbs : Int) := by
  unfold apart
  rw [difs_set, sum_set (by rw [difs_len e]; exact h), difs_at h (by omega)]
theorem act_apart {caps x y : List Int} {p : Int} {d : D} (hx : Stand caps p x) (hy : Stand caps p y) (ok : d.ok caps) : apart (d.act caps p x) (d.act caps p y) ≤ apart x y := by
  have lx := hx.len
  have ly := hy.len
  have e : x.length = y.length := by omega
  cases d with
  | pour a b =>
    obtain ⟨ha, hb, hab⟩ := ok
    have xa := hx.hi b hb
    have ya := hy.hi b hb
    have xl := hx.lo a ha
    have yl := hy.lo a ha
    simp only [D.act]
    rw [apart_set (by rw [List.length_set, List.length_set]; exact e) (by rw [List.length_set]; omega), apart_set e (by omega), at0_set (by omega), at0_set (by omega), if_neg hab, if_neg hab]
    split <;> split <;> omega
  | put a k =>
    obtain ⟨ha, hk, _⟩ := ok
    have xh := hx.hi a ha
    have yh := hy.hi a ha
    simp only [D.act]
    rw [apart_set e (by omega)]
    split <;> split <;> omega
  | draw a k =>
    obtain ⟨ha, hk, _⟩ := ok
    have xh := hx.lo a ha
    have yh := hy.lo a ha
    simp only [D.act]
    rw [apart_set e (by omega)]
    split <;> split <;> omega
  | change a b =>
    obtain ⟨ha, hb, hab, _⟩ := ok
    simp only [D.act]
    rw [apart_set (by rw [List.length_set, List.length_set]; exact e) (by rw [List.length_set]; omega), apart_set e (by omega), at0_set (by omega), at0_set (by omega), if_neg hab, if_neg hab]
    omega
theorem run_apart {caps : List Int} {p : Int} (hp : 1 ≤ p) : ∀ {ds : List D} {x y : List Int}, Stand caps p x → Stand caps p y → (∀ d ∈ ds, d.ok caps) → apart (run caps p ds x) (run caps p ds y) ≤ apart x y
  | [], _, _, _, _, _ => Int.le_refl _
  | d :: ds, x, y, hx, hy, ok => by
    have od := ok d (List.mem_cons_self ..)
    exact Int.le_trans (run_apart (ds := ds) (x := d.act caps p x) (y := d.act caps p y) hp (act_stand hp hx od) (act_stand hp hy od) (fun e he => ok e (List.mem_cons_of_mem _ he))) (act_apart hx hy od)
/-- the law's own step -/
def stepW (caps : List Int) (p : Int) (st : List Int) : D → List Int
  | .change a b => (st.set a (at0 st b)).set b (at0 st a)
  | .pour a b =>
    let m := if at0 caps b * p < at0 st a + at0 st b then at0 caps b * p else at0 st a + at0 st b
    (st.set b m).set a (at0 st a + at0 st b - at0 (st.set b m) b)
  | .put a k => st.set a (if at0 st a + k * p < at0 caps a * p then at0 st a + k * p else at0 caps a * p)
  | .draw a k => st.set a (if at0 st a - k * p > 0 then at0 st a - k * p else 0)
theorem stepW_act {caps st : List Int} {p : Int} {d : D} (hl : st.length = caps.length) (ok : d.ok caps) : stepW caps p st d = d.act caps p st := by
  cases d with
  | pour a b =>
    obtain ⟨ha, hb, hab⟩ := ok
    simp only [stepW, D.act]
    refine ext0 (by simp) fun i hi => ?_
    have q : at0 (st.set b (if at0 caps b * p < at0 st a + at0 st b then at0 caps b * p else at0 st a + at0 st b)) b = (if at0 caps b * p < at0 st a + at0 st b then at0 caps b * p else at0 st a + at0 st b) := by
      rw [at0_set (by omega), if_pos rfl]
    rw [q, at0_set (by rw [List.length_set]; omega), at0_set (by omega), at0_set (by rw [List.length_set]; omega), at0_set (by omega)]
    by_cases e1 : b = i
    · subst e1
      rw [if_neg hab, if_pos rfl, if_pos rfl]
      split <;> split <;> omega
    · rw [if_neg e1, if_neg e1]
      by_cases e2 : a = i
      · rw [if_pos e2, if_pos e2]
        split <;> split <;> omega
      · rw [if_neg e2, if_neg e2]
  | put a k =>
    simp only [stepW, D.act]
    congr 1
    split <;> split <;> omega
  | draw a k =>
    simp only [stepW, D.act]
    congr 1
    split <;> split <;> omega
  | change a b => rfl
end Kp

namespace KpR
open PySem PySem.Spec PyProof.Rows L2
open AutoSeq1 (wpAny_loadPart')
/-! ### xs + ys, each a list that can be read -/
theorem addMeets (l b : Addr) (xs ys : Array Value) (n m : Nat) (sl tl : Array (Option Value)) (hsz : xs.size + ys.size ≤ sizeLine) :
    Meets (Builtin.«list.__add__» ⟨[.ref l, .ref b], []⟩) (fun _ R s =>
      s.heap.get? l = some { cls := .type "list", dict := none, data := .seq xs n, slots := sl } ∧
      s.heap.get? b = some { cls := .type "list", dict := none, data := .seq ys m, slots := tl } ∧
      R (.ok (.ret (.ref s.heap.objs.size))) { s with heap := s.heap.push { cls := .type "list", data := .seq (xs ++ ys) } }) :=
  .of_wp fun prog w A R s h => by
    obtain ⟨hp, g, d, tk, os⟩ := s
    obtain ⟨e1, e2, h⟩ := h
    have z1 := AutoSeq1.idx_int
    have z2 := AutoSeq1.sub_tuple_tuple
    have z3 := AutoSeq1.sub_list_list
    have z4 := AutoSeq1.sub_tuple_list
    have z5 := AutoSeq1.sub_list_tuple
    wp_walk using wpAny_loadPart' e1, wpAny_loadPart' e2
    exact ⟨_, rfl, h⟩
theorem enumNewT (l : Addr) (its : Array Value) (n : Nat) (dct : Option Addr) (sl : Array (Option Value)) :
    Meets (Builtin.«enumerate.__new__» ⟨[.type "enumerate", .ref l], []⟩) (fun _ R s =>
      s.heap.get? l = some { cls := .type "tuple", dict := dct, data := .seq its n, slots := sl } ∧
      R (.ok (.ret (.ref (s.heap.push { cls := .type "tuple_iterator", data := .fields #[.ref l, .int 0 0] }).objs.size)))
        { s with heap := Heap.push (Heap.push s.heap { cls := .type "tuple_iterator", data := .fields #[.ref l, .int 0 0] }) { cls := .type "enumerate", data := .fields #[.none, .bool false, .ref s.heap.objs.size, rawInt 0, .none, .none] } }) :=
  .of_wp fun prog w A R s h => by
    obtain ⟨hp, g, d, tk, os⟩ := s
    obtain ⟨hl, h⟩ := h
    have hsub := sub_enumerate
    have hL : Heap.IsTuple (Shared.heap ⟨hp, g, d, tk, os⟩) l its := ⟨_, hl, rfl, n, rfl⟩
    wp_walk using wpAny_loadPart' hl
    refine wpAny_stack_any fun st => wpAny_pure ?_
    split
    · rename_i c _ _ _ _ _
      cases (c == Value.type "enumerate") <;>
        (wp_walk using wpAny_loadPart' hl, wpAny_pyIter_tuple hL
         exact ⟨_, rfl, h⟩)
    · wp_walk using wpAny_loadPart' hl, wpAny_pyIter_tuple hL
      exact ⟨_, rfl, h⟩
end KpR

namespace KpR
open PySem PySem.Spec PyProof.Rows L2
open AutoSeq1 (wpAny_loadPart')
def rCatR (K : PySem.W.Frag) : R2 := fun x y H Q => ∃ l b xs zs, x = .ref l ∧ y = .ref b ∧ SqL K H l xs ∧ SqL K H b zs ∧ xs.length + zs.length ≤ sizeLine ∧ ∀ q, H q = none → Q (.ref q) (upd H q (.lst (xs ++ zs)))
section
variable {X : Cx}
theorem op_catR : OpR X (binaryOp .Add) (rCatR X.K) := by
  intro pins s σ H x y v u Q I rx ry h
  obtain ⟨l, b, xs, zs, rfl, rfl, h1, h2, hz, q⟩ := h
  cases rx
  cases ry
  obtain ⟨its, r1, p1, _⟩ := I.list h1
  obtain ⟨jts, r2, p2, _⟩ := I.list h2
  obtain ⟨⟨c1, d1, t1, s1⟩, n1, g1, k1, k2, k3⟩ := p1
  obtain ⟨⟨c2, d2, t2, s2⟩, n2, g2, k4, k5, k6⟩ := p2
  cases k1; cases k2; cases k3; cases k4; cases k5; cases k6
  have e1 := r1.length
  have e2 := r2.length
  refine concat_meets ⟨_, g1, rfl⟩ ⟨_, g2, rfl⟩ noFill_list_add seq_list_add F.slot_list_add F.entry_list_add (F.args_list_add_2 _ _)
    (addMeets l b its.toArray jts.toArray n1 n2 s1 s2 (by rw [List.size_toArray, List.size_toArray]; omega)) ⟨g1, g2, ?_⟩
  have ea : its.toArray ++ jts.toArray = (its ++ jts).toArray := by simp
  rw [ea]
  exact ⟨.ref _, _, I.lnew (t' := s.toks) (r1.append r2) (by rw [List.length_append]; omega), rfl, q _ I.fresh⟩
end
/-! ### enumerate(tuple) -/
theorem drawsT {prog : Program} {w : World} {A : Around} (hh : A.handled = none) (it l : Addr) (hne : l ≠ it) (its : Array Value) :
    Draws prog w A it [it, l] its.size (fun i v => its[i]? = some v) (fun i h => h.IsTupleIter it l i ∧ h.IsTuple l its) where
  live := fun _ _ st => by
    obtain ⟨⟨o, ho, _⟩, _⟩ := st
    exact ⟨o, ho⟩
  frame := fun _ _ _ st kp => ⟨st.1.at fun o e => kp it (by simp) o e, st.2.at fun o e => kp l (by simp) o e⟩
  item := fun i s Q E hi st hQ => by
    refine RZ.nextOf_tuple_item st.1 st.2 (x := its[i]) (by simp [hi]) fun h1 hit1 hs1 => ?_
    exact hQ _ h1 s.toks (by simp [hi]) ⟨hit1, st.2.extBut hs1.extBut hne⟩ hs1
  done := fun s Q E st hE => RZ.nextOf_tuple_end hh st.1 st.2 (by simp) hE
section
variable {prog : Program} {w : World} {A : Around} {E : Value → Shared → Prop} {s : Shared}
theorem callEnumT {l : Addr} {its : Array Value} {Q : Value → Shared → Prop} (hL : s.heap.IsTuple l its)
    (h : ∀ h', IsEnum h' (s.heap.objs.size + 1) s.heap.objs.size 0 .none → h'.IsTupleIter s.heap.objs.size l 0 → h'.IsTuple l its →
      (∀ b o, s.heap.get? b = some o → h'.get? b = some o) → Q (.ref (s.heap.objs.size + 1)) { s with heap := h' }) :
    wpAny (model prog w) A (call (.type "enumerate") [.ref l]) Q E s := by
  obtain ⟨⟨c, dct, dt, sl⟩, hl, hc, n, hd⟩ := id hL
  cases hc
  cases hd
  refine callType_new F.called_enumerate (by decide) (F.typeCall_enumerate_1 _) (F.newCall_enumerate_1 _) (fun obj => F.args_object_init_2 obj _) F.entry_enumerate_new
    (enumNewT l its n dct sl) ⟨hl, ?_⟩
  have hz : (s.heap.push { cls := .type "tuple_iterator", data := .fields #[.ref l, .int 0 0] }).objs.size = s.heap.objs.size + 1 := Heap.size_push ..
  show _ ∧ _
  rw [hz]
  have he : IsEnum ((s.heap.push { cls := .type "tuple_iterator", data := .fields #[.ref l, .int 0 0] }).push
      { cls := .type "enumerate", data := .fields #[.none, .bool false, .ref s.heap.objs.size, rawInt 0, .none, .none] }) (s.heap.objs.size + 1) s.heap.objs.size 0 .none := by
    have q := Heap.get?_push_size (s.heap.push { cls := .type "tuple_iterator", data := .fields #[.ref l, .int 0 0] })
      (o := { cls := .type "enumerate", data := .fields #[.none, .bool false, .ref s.heap.objs.size, rawInt 0, .none, .none] }) rfl
    rw [hz] at q
    exact q
  exact ⟨⟨_, he, rfl⟩, h _ he ⟨_, Heap.get?_push_of_some _ (Heap.get?_push_size _ (by rfl)), by rfl, by rfl⟩ ((hL.push _).push _) fun b o x => Heap.get?_push_of_some _ (Heap.get?_push_of_some _ x)⟩
end
/-- the tuple at a: each item in a new pair -/
def IteT (K : PySem.W.Frag) (a : Addr) : It where
  go := fun i H => ∃ (xs : List V) (x : V), SqT K H a xs ∧ xs[i]? = some x
  yld := fun i H v H' => ∃ T x, v = .ref T ∧ H T = none ∧ H' = upd H T (.tup [.int (i : Nat), x]) ∧ ∀ xs, SqT K H a xs → xs[i]? = some x
  stop := fun i H => ∃ xs : List V, SqT K H a xs ∧ xs.length = i
theorem turnEnumT {P : Program} {w : World} {K : PySem.W.Frag} {elts : List Expr} {kk : Nat} {tpos : Pos} (a e it : Addr) :
    Turn P w K (.Tuple elts kk tpos) (IteT K a) [e, it] e (fun i h => (∃ old, IsEnum h e it ((i : Nat) : Int) old) ∧ h.IsTupleIter it a i ∧ e ≠ it ∧ a ≠ it ∧ e ≠ a) where
  mem := by simp
  obj := fun i h st b hb => by
    obtain ⟨⟨old, he⟩, ⟨o, ho, hc, hd⟩, _⟩ := st
    rcases (show b = e ∨ b = it by simpa using hb) with z | z
    · subst z
      exact ⟨_, he, fun v q => nomatch q⟩
    · subst z
      exact ⟨o, ho, fun v q => by rw [hd] at q; cases q⟩
  keep := fun i h h' st k => by
    obtain ⟨⟨old, he⟩, hi, r⟩ := st
    exact ⟨⟨old, k e (by simp) _ he⟩, hi.at fun o q => k it (by simp) o q, r⟩
  item := by
    intro X hP hw hK hc i pins s σ H E I hf st hg
    subst hP hw hK
    obtain ⟨⟨old, he⟩, hit, hne, hai, hea⟩ := st
    obtain ⟨xs, x, hq, hx⟩ := hg
    obtain ⟨its, rv, p, hz⟩ := I.tuple hq
    obtain ⟨u, hu, ru⟩ := rv.get hx
    have el : e < s.heap.objs.size := Heap.lt_size he
    have il : it < s.heap.objs.size := by
      obtain ⟨_, q, _⟩ := hit
      exact Heap.lt_size q
    have hlt : i < its.toArray.size := by
      have := (List.getElem?_eq_some_iff.mp hu).1
      simpa using this
    refine wpAny_pyNext_enum_itemD (drawsT (A := X.A.in1) (I.ok.hd hc) it a hai its.toArray) he ⟨hit, p⟩ hlt hne (by simp; exact ⟨hne, hea⟩) fun y h' tk hy ho st' hT hsz hk => ?_
    obtain rfl : y = u := by
      have q : its.toArray[i]? = some u := by simpa using hu
      rw [q] at hy
      exact (Option.some.inj hy).symm
    refine ⟨_, rfl, wpAny_letOwnedTupleGo_enum (s := { s with heap := h', toks := tk + 1 }) ho fun h2 he2 sb => ?_⟩
    have hT2 : h2.get? s.heap.objs.size = some { cls := .type "tuple", data := .seq #[.int i tk, y] } := (sb.2 _ (Nat.ne_of_gt el)).trans hT
    have new : ObjOk X.prog X.w (upd H s.heap.objs.size (.tup [.int (i : Nat), x])) h2 s.heap.objs.size (.tup [.int (i : Nat), x]) :=
      ⟨by show 2 ≤ sizeLine; decide, [.int i tk, y], .cons ⟨_, rfl⟩ (.cons ru .nil), ⟨_, hT2, rfl, _, rfl⟩⟩
    have I1 : Inv X pins σ (upd H s.heap.objs.size (.tup [.int (i : Nat), x])) { s with heap := h2, toks := tk + 1 } :=
      I.turnedNew (ch := [e, it]) (fun b ob hb q => (sb.2 b (fun z => hb (by simp [z]))).trans (hk b ob (fun z => hb (by simp [z])) (fun z => hb (by simp [z])) q)) hf (Nat.le_refl _) new
    refine ⟨.ref s.heap.objs.size, _, I1, rfl, ⟨_, x, rfl, I.hok.fresh (Nat.le_refl _), rfl, fun ys hy2 => by rw [I.tuple_inj hy2 hq]; exact hx⟩, ⟨⟨y, ?_⟩, st'.1.at fun o q => (sb.2 it (Ne.symm hne)).trans q, hne, hai, hea⟩, fun b hb => ?_⟩
    · have e1 : ((i + 1 : Nat) : Int) = (i : Int) + 1 := by omega
      rw [e1]
      exact he2
    · have hb2 : b < s.heap.objs.size := by
        rcases (show b = e ∨ b = it by simpa using hb) with z | z
        · rw [z]; exact el
        · rw [z]; exact il
      rw [upd_ne (Nat.ne_of_lt hb2)]
      exact (hf b hb).1
  done := by
    intro X hP hw hK hc i pins s σ H E I hf st hg
    subst hP hw hK
    obtain ⟨⟨old, he⟩, hit, hne, hai, hea⟩ := st
    obtain ⟨xs, hq, hx⟩ := hg
    obtain ⟨its, rv, p, hz⟩ := I.tuple hq
    obtain ⟨f0, f1, f2, f3, f4, f5⟩ := hf it (by simp)
    have hl := rv.length
    have hiEq : i = its.toArray.size := by
      rw [List.size_toArray]
      omega
    subst hiEq
    exact wpAny_pyNext_enum_endD (drawsT (A := X.A.in1) (I.ok.hd hc) it a hai its.toArray) he ⟨hit, p⟩ fun h' eb => ⟨rfl, I.turned (t' := s.toks) (fun b o hb q => eb b o hb q) f0 f1 f3 f4 f5⟩
  self := fun A i s Q E st h => by
    obtain ⟨⟨_, he⟩, _⟩ := st
    exact wpAny_pyIter_enum he h
def iEnumT (K : PySem.W.Frag) (ta : TA) : TI := fun σ H R => ta σ H fun vs H1 => ∃ a xs, vs = [.ref a] ∧ SqT K H1 a xs ∧ R (IteT K a) H1
theorem pi_enumT {X : Cx} {e : Expr} {ta : TA} {p pos tpos : Pos} {elts : List Expr} {kk : Nat} (hg : Gl X "enumerate") (hm : X.mg "enumerate" = none) (ha : PA X [e] ta) (hs : starEach [e] X.env = [(false, eval e X.env)] := by rfl) :
    PI X (.Tuple elts kk tpos) (.Call (.Name "enumerate" p) [e] [] pos) (iEnumT X.K ta) := by
  refine ⟨fun pins s σ H R I h => ?_⟩
  refine Call_ (ld_blt I hg hm boot_enumerate (PyProof.Rows.callWith_type1 (thn (ha.run pos pins s σ H _ I h) fun us s1 ⟨vs, H1, I1, r1, a, xs, ex, hq, q⟩ => ?_) hs rfl))
  subst ex
  cases r1 with
  | cons r rr =>
    cases rr
    cases r
    obtain ⟨its, rv, p1, hz⟩ := I1.tuple hq
    refine callEnumT p1 fun h1 he hit hT hk => wpAny_pyIter_enum he ?_
    have al : a < s1.heap.objs.size := by
      obtain ⟨o, ho, _⟩ := p1
      exact Heap.lt_size ho
    have I2 : Inv X pins σ H1 { s1 with heap := h1 } := I1.kept (t' := s1.toks) hk
    refine ⟨s1.heap.objs.size + 1, [s1.heap.objs.size + 1, s1.heap.objs.size], _, _, H1, rfl, I2, turnEnumT a (s1.heap.objs.size + 1) s1.heap.objs.size, ⟨⟨.none, he⟩, hit, Nat.succ_ne_self _, Nat.ne_of_lt al, Nat.ne_of_gt (Nat.lt_succ_of_lt al)⟩, fun b hb => ?_, q⟩
    have le : s1.heap.objs.size ≤ b := by
      rcases (show b = s1.heap.objs.size + 1 ∨ b = s1.heap.objs.size by simpa using hb) with z | z
      · rw [z]
        exact Nat.le_succ _
      · rw [z]
        exact Nat.le_refl _
    exact I1.fpOk le (I1.hok.fresh le)
/-- the loop's bookkeeping: the pair is a new tuple at T -/
theorem for_enumT {K : PySem.W.Frag} {a : Addr} {xs : List V} {g : TG} {tb : TS} {D : Ends} {σ : L2.St} {H : Hp} (Pv : Nat → L2.St → Hp → Prop) (h0 : Pv 0 σ H) (hl : ∀ i σ H, i ≤ xs.length → Pv i σ H → SqT K H a xs)
    (hs : ∀ i x T σ H, xs[i]? = some x → Pv i σ H → H T = none → g (.ref T) σ (upd H T (.tup [.int (i : Nat), x])) fun σ2 H2 => tb { D with nx := Pv (i + 1), ct := Pv (i + 1), bk := D.nx } σ2 H2) (hd : ∀ σ H, Pv xs.length σ H → D.nx σ H) :
    ∃ W : Nat → Nat → L2.St → Hp → Prop, (∃ m, W 0 m σ H) ∧ ∀ i m σ H, W i m σ H →
      ((IteT K a).stop i H ∧ D.nx σ H) ∨ ((IteT K a).go i H ∧ ∃ N : L2.St → Hp → Prop, (∀ σ' H', N σ' H' → ∃ m', m' < m ∧ W (i + 1) m' σ' H') ∧ ∀ x H', (IteT K a).yld i H x H' → g x σ H' fun σ2 H2 => tb { D with nx := N, ct := N, bk := D.nx } σ2 H2) := by
  refine ⟨fun i m σ H => m = xs.length - i ∧ i ≤ xs.length ∧ Pv i σ H, ⟨xs.length, by simp, Nat.zero_le _, h0⟩, ?_⟩
  rintro i m σ1 H1 ⟨rfl, hi, p⟩
  by_cases e : i = xs.length
  · subst e
    exact .inl ⟨⟨xs, hl _ _ _ hi p, rfl⟩, hd _ _ p⟩
  · have lt : i < xs.length := by omega
    have ge : xs[i]? = some xs[i] := List.getElem?_eq_getElem lt
    refine .inr ⟨⟨xs, xs[i], hl _ _ _ hi p, ge⟩, Pv (i + 1), fun σ2 H2 q => ⟨xs.length - (i + 1), by omega, rfl, by omega, q⟩, ?_⟩
    rintro x H2 ⟨T, y, rfl, hT, rfl, hy⟩
    have q := hy xs (hl _ _ _ hi p)
    exact hs i y T σ1 H1 q p hT
/-! ### f(k = v, ..): keywords alone -/
theorem pe_callN0 {X : Cx} {CX : CXT} {k : Nat} {f : Addr} {fd : FuncData} {ps ks : List Str} {sp : Sp} {E : XK} {x : Str} {p pos : Pos} {kws : List Keyword} {tk : TA} {g : List Value → List Value → List Value} {gV : List V → List V → List V}
    (F : FnOk X.prog X.w X.K X.mg X.base CX k f fd ps sp) (hr : Room k X.A) (hg : Gl X x) (hm : X.mg x = some (.ref f)) (hk : PySem.W.keepIn X.K (.ref f) = true) (hb : KBn X.K fd ps 0 ks g gV) (hx : Passes CX X E) (hkw : PK X kws tk)
    (hall : (backToKw pos (keywordEach kws X.env)).all (·.1.isSome) = true := by rfl) (hks : (backToKw pos (keywordEach kws X.env)).filterMap (·.1) = ks := by rfl) (hdb : (x == ("__debug__" : Str)) = false := by decide)
    (hpl : ((backTo pos (starEach [] X.env)).any (·.1) || (backToKw pos (keywordEach kws X.env)).any (·.1.isNone)) = false := by rfl) :
    PE X (.Call (.Name x p) [] kws pos) (tCallN 0 ks.length sp gV E tNil tk) := by
  refine ⟨fun pins s σ H Q I h => ?_⟩
  refine wpAny_Call_Name_kw (ld_glob I hg hm ?_ hdb)
  refine PySem.W.callWith_KW0 (h₀ := X.base) I.ok.mod.kin hk hall (thn (hkw.run pos pins s σ H _ I h) fun ws s2 ⟨zs, H2, I2, rz, l1, l2, q2⟩ => ⟨I2.kIn, ?_⟩) hpl
  rw [hks]
  exact run_fnN (us := []) (vs := []) F hr hb hx I2 .nil rz rfl l2 q2
/-! ### isinstance's answers -/
theorem kit_self {K : PySem.W.Frag} {t : Value} (h : (t == t) = true) : PySem.W.kitOne K t t = some true := by
  unfold PySem.W.kitOne
  rw [if_pos h]
theorem kit_cls {K : PySem.W.Frag} {A C : Addr} {b : Bool} (h1 : PySem.W.isClsIn K C = true) (h2 : PySem.W.typeIn K (.ref C) = some (.type "type")) (h3 : PySem.W.subIn K (.ref A) (.ref C) = some b) (ne : (Value.ref A == Value.ref C) = false) :
    PySem.W.kitOne K (.ref A) (.ref C) = some b := by
  unfold PySem.W.kitOne
  rw [if_neg (by rw [ne]; exact Bool.false_ne_true)]
  show (if ((PySem.W.clsIn K C).isSome && PySem.W.typeIn K (.ref C) == some (.type "type")) = true then PySem.W.subIn K (.ref A) (.ref C) else none) = some b
  have h1' : (PySem.W.clsIn K C).isSome = true := h1
  rw [h1', h2, if_pos (by rfl)]
  exact h3
/-! ### lists of things that stand in the heap -/
def A2 {α : Type} (R : V → α → Prop) : List V → List α → Prop
  | [], [] => True
  | v :: vs, d :: ds => R v d ∧ A2 R vs ds
  | _, _ => False
section
variable {α : Type} {R S : V → α → Prop}
theorem A2.len : ∀ {vs : List V} {ds : List α}, A2 R vs ds → vs.length = ds.length
  | [], [], _ => rfl
  | _ :: _, _ :: _, h => congrArg (· + 1) (A2.len h.2)
  | [], _ :: _, h => h.elim
  | _ :: _, [], h => h.elim
theorem A2.mono (f : ∀ v d, R v d → S v d) : ∀ {vs : List V} {ds : List α}, A2 R vs ds → A2 S vs ds
  | [], [], _ => trivial
  | _ :: _, _ :: _, h => ⟨f _ _ h.1, A2.mono f h.2⟩
  | [], _ :: _, h => h.elim
  | _ :: _, [], h => h.elim
theorem A2.get : ∀ {vs : List V} {ds : List α} {i : Nat} {v : V}, A2 R vs ds → vs[i]? = some v → ∃ d, ds[i]? = some d ∧ R v d
  | [], [], i, v, _, e => by simp at e
  | w :: _, d :: _, 0, v, h, e => by
    have : w = v := by simpa using e
    exact ⟨d, rfl, this ▸ h.1⟩
  | _ :: _, _ :: _, i + 1, v, h, e => by
    obtain ⟨d, e1, r⟩ := A2.get (i := i) h.2 (by simpa using e)
    exact ⟨d, by simpa using e1, r⟩
  | [], _ :: _, _, _, h, _ => h.elim
  | _ :: _, [], _, _, h, _ => h.elim
theorem A2.app : ∀ {vs ws : List V} {ds es : List α}, A2 R vs ds → A2 R ws es → A2 R (vs ++ ws) (ds ++ es)
  | [], _, [], _, _, k => k
  | _ :: _, _, _ :: _, _, h, k => ⟨h.1, A2.app h.2 k⟩
  | [], _, _ :: _, _, h, _ => h.elim
  | _ :: _, _, [], _, h, _ => h.elim
theorem A2.take : ∀ {vs : List V} {ds : List α} (n : Nat), A2 R vs ds → A2 R (vs.take n) (ds.take n)
  | vs, ds, 0, _ => by simp [A2]
  | [], [], n + 1, _ => trivial
  | _ :: _, _ :: _, n + 1, h => ⟨h.1, A2.take n h.2⟩
  | [], _ :: _, _ + 1, h => h.elim
  | _ :: _, [], _ + 1, h => h.elim
theorem A2.drop : ∀ {vs : List V} {ds : List α} (n : Nat), A2 R vs ds → A2 R (vs.drop n) (ds.drop n)
  | vs, ds, 0, h => by simpa using h
  | [], [], n + 1, _ => trivial
  | _ :: _, _ :: _, n + 1, h => A2.drop n h.2
  | [], _ :: _, _ + 1, h => h.elim
  | _ :: _, [], _ + 1, h => h.elim
end
/-! ### heaps -/
/-- all that was tracked, but what stands at w, is as it was -/
def Fr (w : Addr) (H H' : Hp) : Prop := ∀ b o, b ≠ w → H b = some o → H' b = some o
theorem Fr.refl (w : Addr) (H : Hp) : Fr w H H := fun _ _ _ h => h
theorem Fr.trans {w : Addr} {H H1 H2 : Hp} (a : Fr w H H1) (b : Fr w H1 H2) : Fr w H H2 := fun c o n h => b c o n (a c o n h)
theorem Fr.of {w : Addr} {H H1 : Hp} (a : Same H H1) : Fr w H H1 := fun b o _ h => a b o h
theorem Fr.sqL {K : PySem.W.Frag} {w : Addr} {H H' : Hp} {a : Addr} {xs : List V} (e : Fr w H H') (n : a ≠ w) (h : SqL K H a xs) : SqL K H' a xs := by
  rcases h with h | h
  · refine Or.inl ?_
    rcases h with h | ⟨o, h⟩
    · exact Or.inl (e a _ n h)
    · exact Or.inr ⟨o, e a _ n h⟩
  · exact Or.inr h
theorem Fr.sqT {K : PySem.W.Frag} {w : Addr} {H H' : Hp} {a : Addr} {xs : List V} (e : Fr w H H') (n : a ≠ w) (h : SqT K H a xs) : SqT K H' a xs := by
  rcases h with h | h
  · refine Or.inl ?_
    rcases h with h | ⟨o, h⟩
    · exact Or.inl (e a _ n h)
    · exact Or.inr ⟨o, e a _ n h⟩
  · exact Or.inr h
theorem sameT {K : PySem.W.Frag} {H H' : Hp} {a : Addr} {xs : List V} (e : Same H H') (h : SqT K H a xs) : SqT K H' a xs := by
  rcases h with h | h
  · refine Or.inl ?_
    rcases h with h | ⟨o, h⟩
    · exact Or.inl (e a _ h)
    · exact Or.inr ⟨o, e a _ h⟩
  · exact Or.inr h
theorem same_new {H : Hp} {p : Addr} {o : HO} (h : H p = none) : Same H (upd H p o) := fun b u e => by
  rw [upd_ne (ne_of_none e h)]
  exact e
theorem same_mut {H H' : Hp} {p : Addr} {o : HO} (e : Same H H') (h : H p = none) : Same H (upd H' p o) := fun b u ha => by
  rw [upd_ne (ne_of_none ha h)]
  exact e b u ha
theorem fr_mut {w : Addr} {H H' : Hp} {o : HO} (e : Fr w H H') : Fr w H (upd H' w o) := fun b u n h => by
  rw [upd_ne n]
  exact e b u n h
theorem fr_new {w : Addr} {H H' : Hp} {p : Addr} {o : HO} (e : Fr w H H') (h : H p = none) : Fr w H (upd H' p o) := fun b u n ha => by
  rw [upd_ne (ne_of_none ha h)]
  exact e b u n ha
theorem fr_free {w : Addr} {H H' : Hp} {p : Addr} (e : Fr w H H') (n : p ≠ w) (h : H' p = none) : H p = none := by
  cases z : H p with
  | none => rfl
  | some o =>
    rw [e p o n z] at h
    cases h
/-- ints as values -/
abbrev vi (l : List Int) : List V := l.map V.int
theorem vi_get {l : List Int} {i : Nat} {y : V} (h : (vi l)[i]? = some y) : ∃ z, l[i]? = some z ∧ y = .int z := by
  rw [List.getElem?_map] at h
  cases e : l[i]? with
  | none =>
    rw [e] at h
    cases h
  | some z =>
    rw [e] at h
    exact ⟨z, rfl, (Option.some.inj h).symm⟩
theorem vi_at {l : List Int} {i : Nat} (h : i < l.length) : atI (vi l) (i : Int) = some (.int (l.getD i 0)) := by
  refine atI_nat ?_
  rw [List.getElem?_map, List.getElem?_eq_getElem h, List.getD_eq_getElem?_getD, List.getElem?_eq_getElem h]
  rfl
end KpR

namespace KpR
open PySem PySem.Spec PyProof.Rows L2
section
variable {α : Type} {K : PySem.W.Frag} {H : Hp} {f : α → PyData}
theorem dp_map {R : V → α → Prop} (h : ∀ t x, R t x → Dp K H t (f x)) : ∀ {ts : List V} {l : List α}, A2 R ts l → DpAll K H ts (l.map f)
  | [], [], _ => .nil
  | _ :: _, _ :: _, k => .cons (h _ _ k.1) (dp_map h k.2)
  | [], _ :: _, k => k.elim
  | _ :: _, [], k => k.elim
theorem lay_map : ∀ {l : List α}, (∀ x ∈ l, (f x).canLay0 = true) → PyData.canLayAll0 (l.map f) = true
  | [], _ => by simp [PyData.canLayAll0]
  | x :: l, h => by
    simp only [List.map_cons, PyData.canLayAll0, h x (List.mem_cons_self ..), Bool.true_and]
    exact lay_map fun y hy => h y (List.mem_cons_of_mem _ hy)
theorem dep_map {n : Nat} : ∀ {l : List α}, (∀ x ∈ l, (f x).depth ≤ n) → PyData.depthAll (l.map f) ≤ n
  | [], _ => by simp [PyData.depthAll]
  | x :: l, h => by
    simp only [List.map_cons, PyData.depthAll]
    exact Nat.max_le.mpr ⟨h x (List.mem_cons_self ..), dep_map fun y hy => h y (List.mem_cons_of_mem _ hy)⟩
theorem eqv_map [DecidableEq α] (h : ∀ x y, (f x).eqv (f y) = decide (x = y)) : ∀ {l m : List α}, PyData.eqvAll (l.map f) (m.map f) = decide (l = m)
  | [], [] => by simp [PyData.eqvAll]
  | [], _ :: _ => by simp [PyData.eqvAll]
  | _ :: _, [] => by simp [PyData.eqvAll]
  | x :: l, y :: m => by
    simp only [List.map_cons, PyData.eqvAll, h, eqv_map h (l := l) (m := m)]
    by_cases h1 : x = y
    · by_cases h2 : l = m <;> simp [h1, h2]
    · simp [h1]
/-- what can be compared: of no great depth -/
structure Flat (n : Nat) (d : PyData) : Prop where
  lay : d.canLay0 = true
  dep : d.depth ≤ n
theorem Flat.sh {n : Nat} {d : PyData} (h : Flat n d) (hn : n ≤ 64) : SeqAt.shaped d = true := by
  unfold SeqAt.shaped
  rw [h.lay, decide_eq_true (Nat.le_trans h.dep hn)]
  rfl
theorem Flat.list {n : Nat} {l : List α} (h : ∀ x ∈ l, Flat n (f x)) : Flat (n + 1) (.list (l.map f)) :=
  ⟨by simp only [PyData.canLay0]; exact lay_map fun x hx => (h x hx).lay, by simp only [PyData.depth]; exact Nat.succ_le_succ (dep_map fun x hx => (h x hx).dep)⟩
theorem Flat.tup {n : Nat} {l : List α} (h : ∀ x ∈ l, Flat n (f x)) : Flat (n + 1) (.tuple (l.map f)) :=
  ⟨by simp only [PyData.canLay0]; exact lay_map fun x hx => (h x hx).lay, by simp only [PyData.depth]; exact Nat.succ_le_succ (dep_map fun x hx => (h x hx).dep)⟩
theorem Flat.int {n : Nat} {i : Int} : Flat n (.int i) := ⟨rfl, Nat.zero_le _⟩
theorem Flat.bl {n : Nat} {b : Bool} : Flat n (.bool b) := ⟨rfl, Nat.zero_le _⟩
theorem Flat.non {n : Nat} : Flat n .none := ⟨rfl, Nat.zero_le _⟩
theorem Flat.str {n : Nat} {x : Str} (h : (PyData.str x).canLay0 = true) : Flat n (.str x) := ⟨h, Nat.zero_le _⟩
theorem Flat.mono {n m : Nat} {d : PyData} (h : Flat n d) (k : n ≤ m) : Flat m d := ⟨h.lay, Nat.le_trans h.dep k⟩
theorem eqv_int {i j : Int} : PyData.eqv (.int i) (.int j) = decide (i = j) := by
  simp only [PyData.eqv]
  by_cases h : i = j <;> simp [h]
/-- != and == of data -/
theorem neD {x y : V} {d e : PyData} {Q : VK} (h1 : Dp K H x d) (h2 : Dp K H y e) (f1 : Flat 60 d) (f2 : Flat 60 e) (q : Q (.bl (!PyData.eqv d e)) H) : rNeD K x y H Q := ⟨d, e, h1, h2, f1.sh (by decide), f2.sh (by decide), q⟩
theorem eqD {x y : V} {d e : PyData} {Q : VK} (h1 : Dp K H x d) (h2 : Dp K H y e) (f1 : Flat 60 d) (f2 : Flat 60 e) (q : Q (.bl (PyData.eqv d e)) H) : rEqD K x y H Q := ⟨d, e, h1, h2, f1.sh (by decide), f2.sh (by decide), q⟩
end
end KpR

namespace KpR
open PySem PySem.Spec PyProof.Rows L2
/-- a def called by the law's caller -/
def RunC (P : Program) (w : World) (K : PySem.W.Frag) (mg : Str → Option Value) (base : Heap) (CX : CXT) (f : Addr) (fd : FuncData) (ps : List Str) (sp : Sp) : Prop :=
  ∀ (outer : List Env) (s : Shared) (H : Hp) (args : Args) (us : List Value) (vs : List V) (Q : VK) (E : XK), Env0 P w K mg base callerA outer s H → BindsTo s fd args (ps.zip us) → Vals vs us → sp vs H Q E → codeAny (model P w) callerA (.call (.ref f) args) (CR CX outer P w H s Q E) s
section
variable {CX : CXT} {P : Program} {w : World} {K : PySem.W.Frag} {mg : Str → Option Value} {base : Heap} {k : Nat} {f : Addr}
theorem fn_atC {name qual : Str} {params : Arguments} {body : List Stmt} {scope : Scope} {dV kV doc pm cdv ct oc : Value} {an od : Option Addr} {osl : Array (Option Value)} {N ps : List Str} {sp : Sp} (hk : Room (k + 1) callerA)
    (lk : K.lookup f = some ⟨oc, od, .func (PySem.W.fnOf name qual params body scope dV kV doc pm an cdv ct), osl⟩) (hcd : PySem.W.codeIn K cdv qual = true) (S : FnScope N ps scope) (len : ∀ vs H Q E, sp vs H Q E → vs.length = ps.length)
    (rd : ∀ (outer : List Env) (s : Shared) (H : Hp) (vs : List V) (Q : VK) (E : XK), sp vs H Q E → ∃ t, PSs (cxOf CX P w K mg base N qual scope f cdv callerA outer s H E) body t ∧ t { nx := fun _ H' => Q .non H', rt := Q } (start N vs) H) :
    RunC P w K mg base CX f (PySem.W.fnOf name qual params body scope dV kV doc pm an cdv ct) ps sp := by
  intro outer s H args us vs Q E env0 bnd rel want
  have many := len _ _ _ _ want
  have inK : K.In s.heap := env0.mod.kin.keeps fun b o z => (env0.bs b o z).1
  have free : s.heap.NoLimit := env0.mod.nolimit.keeps fun b o z => (env0.bs b o z).1
  have kinds : ∀ y ∈ ps.zip us, scope.names.lookup y.1 = some .local ∨ (scope.names.lookup y.1 = some .cell ∧ ((cellsFrom (s.heap.objs.size + 1) scope.names []).lookup y.1).isSome = true) := fun ⟨n, v⟩ hy =>
    (S.par n (List.of_mem_zip hy).1).imp id fun z => ⟨z, PySem.W.cellsFrom_some _ _ _ (.inl z)⟩
  refine codeAny_call_function hk.depth (inK _ _ lk) rfl S.co S.gen rfl (PySem.W.codeRec_of inK hcd) (bnd _ _ _ _ (wpAny_newFunctionEnv_cells S.kind kinds fun env he s1 x => ?_))
  subst he
  refine ⟨free.keeps x.toInCall.keep, codeAny_func ?_⟩
  obtain ⟨t, ht, asked⟩ := rd outer s H vs Q E want
  have I : Inv (cxOf CX P w K mg base N qual scope f cdv callerA outer s H E) [] (start N vs) H s1 := inv_start S hk.hd env0 many rel x
  have out : ∀ {τ : L2.St} {H' : Hp} {v : V} {u : Value} {s2 : Shared}, Inv (cxOf CX P w K mg base N qual scope f cdv callerA outer s H E) [] τ H' s2 → RelV v u → Q v H' → CE outer P w H s Q u s2 := fun {τ H' v u s2} J rv q => ⟨v, H', J.os, J.bare, J.base, J.hok, rv, q⟩
  refine wpAny_mono (ht.run [] s1 (start N vs) H _ I asked) (fun fl s2 got => ?_) fun _ _ got => got
  match fl, got with
  | .ret u, ⟨_, _, _, J, rv, q⟩ => exact out J rv q
  | .next, ⟨_, _, J, q⟩ => exact out (v := V.non) (u := Value.none) J rfl q
  | .brk, ⟨_, _, _, q⟩ => exact q.elim
  | .cont, ⟨_, _, _, q⟩ => exact q.elim
theorem callC {mb : Str → Option Value} {fa a : Addr} {fd : FuncData} {x : Str} {sp : Sp} {s₁ : Shared} {vs : List Value} {ns : List Int} (inK : K.In s₁.heap) (nm : s₁.heap.Ns mainGlobals mg) (nb : s₁.heap.Ns builtinsNs mb) (bb : ∀ x : Str, x ≠ "__name__" → mb x = bootBuiltins x) (free : s₁.heap.NoLimit) (ge : s₁.gens = #[])
    (at_ : s₁.heap.get? a = some { cls := .type "list", data := .seq vs.toArray }) (hints : IntsAre vs ns) (few : ns.length ≤ sizeLine) (F : ∀ base : Heap, K.In base → base.Ns mainGlobals mg → RunC P w K mg base CX fa fd [x] sp) (bnd : ∀ (s : Shared) (u : Value), BindsTo s fd ⟨[u], []⟩ [(x, u)])
    (want : ∀ H : Hp, Only H → SqL K H a (ns.map V.int) → sp [.ref a] H (fun v _ => v = .bl true) fun _ _ _ => False) (no : ∀ H e s', CX [] H s₁ (fun _ _ _ => False) e s' → False) :
    codeAny (model P w) callerA (.call (.ref fa) ⟨[.ref a], []⟩) (fun r s' => r = .ok (.ret (.bool true)) ∧ OldK s₁.heap s'.heap ∧ s'.os = s₁.os ∧ AllBare s'.gens) s₁ := by
  have rel := vals_ints hints
  have sz := hints.length
  have main : ∀ H : Hp, Only H → SqL K H a (ns.map V.int) → HOk P w H s₁.heap → (∀ b, H b ≠ none → b = a) → (H a ≠ none → K.lookup a = none) → codeAny (model P w) callerA (.call (.ref fa) ⟨[.ref a], []⟩) (fun r s' => r = .ok (.ret (.bool true)) ∧ OldK s₁.heap s'.heap ∧ s'.os = s₁.os ∧ AllBare s'.gens) s₁ := by
    intro H only sq hok one noK
    have isA : ∀ {b : Addr} {u : HO}, H b = some u → b = a := fun z => one _ (by rw [z]; simp)
    have low : ∀ {b : Addr} {o : Obj}, s₁.heap.get? b = some o → H b = none → (hidT s₁.heap H).get? b = some o := fun z n => hidT_get z n
    have dict : ∀ {b : Addr} {o : Obj} {es : Array DictEntry} {ep : Nat}, s₁.heap.get? b = some o → o.data = .dict es ep → H b = none := fun {b o es ep} z d => by
      cases q : H b with
      | none => rfl
      | some u =>
        obtain rfl := isA q
        rw [at_] at z
        cases z
        cases (show Data.seq vs.toArray _ = Data.dict es ep from d)
    have nsL : ∀ {b : Addr} {m : Str → Option Value}, s₁.heap.Ns b m → (hidT s₁.heap H).Ns b m := fun ⟨o, es, ep, z, d, r⟩ => ⟨o, es, ep, low z (dict z d), d, r⟩
    have lowK : K.In (hidT s₁.heap H) := fun b o z => low (inK b o z) (by
      cases q : H b with
      | none => rfl
      | some u =>
        obtain rfl := isA q
        rw [noK (by rw [q]; simp)] at z
        cases z)
    have md : Mod K mg (hidT s₁.heap H) := ⟨lowK, nsL nm, ⟨mb, nsL nb, bb⟩, let ⟨mc, h1, h2⟩ := free; ⟨mc, nsL h1, h2⟩⟩
    have env0 : Env0 P w K mg (hidT s₁.heap H) callerA [] s₁ H := ⟨rfl, md, fun b o z => of_hidT z, Nat.le_of_eq (hidT_size _ _), trivial, fun b hb => absurd (show b ∈ ([] : List Addr) from hb) (by simp), hok, .of_eq ge⟩
    refine codeAny_mono (F _ lowK (nsL nm) [] s₁ H ⟨[.ref a], []⟩ [.ref a] [.ref a] _ _ env0 (bnd s₁ (.ref a)) (.cons rfl .nil) (want H only sq)) fun r s' got => ?_
    match r, got with
    | .error e, got => exact (no H e s' got).elim
    | .ok .next, got => exact got.elim
    | .ok .brk, got => exact got.elim
    | .ok .cont, got => exact got.elim
    | .ok (.ret u), ⟨v, H', os, bare, un, hok2, rv, ev⟩ =>
      obtain rfl : v = .bl true := ev
      obtain rfl : u = Value.bool true := rv
      refine ⟨rfl, OldK.of_keep fun b o z => ?_, os, bare⟩
      cases q : H b with
      | none => exact un.keep b o z q (fun m => absurd (show b ∈ ([] : List Addr) from m) (by simp)) (by simp)
      | some u =>
        rcases only b with n | ⟨ob, xs, n⟩
        · rw [q] at n
          cases n
        · obtain ⟨e1, _⟩ := hok b _ n
          obtain ⟨e2, _⟩ := hok2 b _ (un.frzs b ob _ n)
          rw [z] at e1
          cases e1
          exact e2
  have siz : vs.toArray.size ≤ sizeLine := by rw [List.size_toArray, sz]; exact few
  cases kept : K.lookup a with
  | some o =>
    have z := inK a o kept
    rw [at_] at z
    cases z
    exact main (fun _ => none) (fun _ => .inl rfl) (.inr ⟨_, vs.toArray, _, kept, rfl, rfl, rfl, siz, by simpa using rel⟩) (fun b u q => by cases (show (none : Option HO) = some u from q)) (fun b q => absurd rfl q) fun q => absurd rfl q
  | none =>
    have yes : ∀ {b : Addr}, b = a → (fun c => if c = a then some (HO.frz { cls := .type "list", data := .seq vs.toArray } (.lst (ns.map V.int))) else none) b = some (HO.frz { cls := .type "list", data := .seq vs.toArray } (.lst (ns.map V.int))) := fun q => if_pos q
    have nah : ∀ {b : Addr}, b ≠ a → (fun c => if c = a then some (HO.frz { cls := .type "list", data := .seq vs.toArray } (.lst (ns.map V.int))) else none) b = none := fun q => if_neg q
    refine main _ (fun b => ?_) (.inl (.inr ⟨_, yes rfl⟩)) (fun b u q => ?_) (fun b q => Classical.byContradiction fun n => q (nah n)) fun _ => kept
    · by_cases e : b = a
      · exact .inr ⟨_, _, yes e⟩
      · exact .inl (nah e)
    · by_cases e : b = a
      · cases (yes e).symm.trans q
        subst e
        exact ⟨at_, by rw [List.length_map]; exact few, vs, _, rel, at_⟩
      · cases (nah e).symm.trans q
end
theorem walk_ofC {l : PySem.W.OpenLaw} {n : Nat} {q : Program} {loose : List Str} {XP : (Str → Option Value) → Heap → Prop} {YP : World → Heap → Prop} {d : DefRec} {K : Params → PySem.W.Frag} {CX : World → CXT} {sp : World → Sp} {x : Str} (hn : l.most = some n) (few : n ≤ sizeLine) (hdf : d.params.defaults = [])
    (hY : ∀ (w : World) (h : Heap), YP w h → (K w.params).In h) (F : ∀ (w : World) (mg : Str → Option Value) (fa : Addr) (h : Heap), (K w.params).In h → h.Ns mainGlobals mg → mg d.name = some (.ref fa) → ∃ fd : FuncData, (∀ (s : Shared) (u : Value), BindsTo s fd ⟨[u], []⟩ [(x, u)]) ∧
        ∀ base : Heap, (K w.params).In base → base.Ns mainGlobals mg → RunC l.prog w (K w.params) mg base (CX w) fa fd [x] (sp w))
    (want : ∀ (w : World) (H : Hp) (a : Addr) (ns : List Int), ns.length ≤ n → Only H → SqL (K w.params) H a (ns.map V.int) → sp w [.ref a] H (fun v _ => v = .bl true) fun _ _ _ => False) (no : ∀ (w : World) (H : Hp) (s : Shared) (e : Value) (s' : Shared), CX w [] H s (fun _ _ _ => False) e s' → False) :
    PySem.W.WalkO q loose XP YP l.row.toRowW d [] (fun f vs => PySem.call f vs) :=
  Att.attach_call hn hdf fun w s₀ s₁ mg mb fa o pm cd doc a vs ns G Y ho hd hcd hmg hobj hints hlen hg => by
    obtain ⟨fd, bnd, run⟩ := F w mg fa _ (hY w _ Y) G.T.g hmg
    exact callC (hY w _ Y) G.T.g G.T.b G.T.builtins G.T.nolimit hg hobj hints (Nat.le_trans hlen few) run bnd (fun H o z => want w H a ns hlen o z) fun H e s' => no w H s₁ e s'
theorem Fun.okC {P : Program} {w : World} {K : PySem.W.Frag} {mg : Str → Option Value} {base : Heap} {x qual : Str} {st : Stmt} {f : Addr} {fd : FuncData} {N ps : List Str} {k : Nat} {sp : Sp} (hk : Room (k + 1) callerA) (F : L2.Fun K x qual st f fd) (S : FnScope N ps (defScope st)) (len : ∀ vs H Q E, sp vs H Q E → vs.length = ps.length)
    (rd : ∀ (cdv : Value) (outer : List Env) (s : Shared) (H : Hp) (vs : List V) (Q : VK) (E : XK), Room k (callerA.deeper (envOfC qual (defScope st) s.heap.objs.size f cdv)) → sp vs H Q E → ∃ t, PSs (cxOf CX0 P w K mg base N qual (defScope st) f cdv callerA outer s H E).nox (defBody st) t ∧ t { nx := fun _ H' => Q .non H', rt := Q } (start N vs) H) :
    RunC P w K mg base CX0 f fd ps sp := by
  obtain ⟨oc, od, kV, doc, pm, an, cdv, ct, osl, rfl, lk, hcd⟩ := F.ex
  refine fn_atC hk lk hcd S len fun outer s H vs Q E want => ?_
  obtain ⟨t, h, q⟩ := rd cdv outer s H vs Q E (hk.deeper _) want
  exact ⟨t, h.nox, q⟩
/-- repr of a list whose data stand, where nobody's repr is under way -/
def rRepr (K : PySem.W.Frag) : List V → Hp → VK → Prop := fun xs H Q => ∃ (a : Addr) (d : PyData), xs = [.ref a] ∧ Dp K H (.ref a) d ∧ d.showable = true ∧ d.hasDict = false ∧ d.depth ≤ 8 ∧ d.shown.length ≤ sizeLine ∧ Q (.str d.shown) H
theorem cr_repr {X : Cx} (hg : X.A.guards = some []) (hu : X.A.units + 64 < cLine) : CallR X (.builtin "repr") (rRepr X.K) := by
  intro pins s σ H xs us Q I r h
  obtain ⟨a, d, rfl, hd, hs, hx, h8, hz, q⟩ := h
  rw [Vals.ref1 r]
  obtain ⟨as, rd⟩ := Dp.reads I d (.ref a) (.ref a) hd rfl
  refine repr_of_reads' rd hs (fun z => by rw [hx] at z; cases z) hg (by omega) (fun _ _ z => z) (fun h' u tk hk => ?_) hz
  exact ⟨.str _, H, I.kept (t' := tk) hk, ⟨_, rfl⟩, q⟩
end KpR

namespace Kp
open PySem PySem.Spec PyProof.Rows L2 KpR
def topS (i : Nat) : Stmt := PySem.Challenge.pw_wholedrops_k90_whole_never_farther_never.main.body.getD i (.Pass ⟨0, 0, 0, 0⟩)
abbrev scheckmuch : Stmt := topS 19
abbrev scheckjar : Stmt := topS 20
abbrev scheckdeed : Stmt := topS 21
abbrev sJarsInit : Stmt := inClass (topS 12) 0
abbrev sPourInit : Stmt := inClass (topS 14) 0
abbrev sPutInit : Stmt := inClass (topS 15) 0
abbrev sDrawInit : Stmt := inClass (topS 16) 0
abbrev sChangeInit : Stmt := inClass (topS 17) 0
abbrev sRowInit : Stmt := inClass (topS 18) 0
abbrev scheckstart : Stmt := topS 24
abbrev sbehinddeed : Stmt := topS 25
abbrev sbehindround : Stmt := topS 26
abbrev sbehind : Stmt := topS 27
abbrev sLstate : Stmt := topS 30
abbrev sLdigit : Stmt := topS 31
abbrev sLdeed : Stmt := topS 32
abbrev sLhouse : Stmt := topS 33
abbrev sLrow : Stmt := topS 34
abbrev sLonce : Stmt := topS 35
abbrev sLapart : Stmt := topS 36
abbrev sLbelow : Stmt := topS 37
abbrev sLallonce : Stmt := topS 38
abbrev sLgoneon : Stmt := topS 39
abbrev slaw : Stmt := topS 40
theorem sccheckmuch : FnScope ["what", "much"] ["what", "much"] (defScope scheckmuch) := ⟨rfl, rfl, rfl, by decide +kernel, rfl, by decide +kernel, by decide +kernel⟩
theorem sccheckjar : FnScope ["jars", "jar"] ["jars", "jar"] (defScope scheckjar) := ⟨rfl, rfl, rfl, by decide +kernel, rfl, by decide +kernel, by decide +kernel⟩
theorem sccheckdeed : FnScope ["jars", "deed"] ["jars", "deed"] (defScope scheckdeed) := ⟨rfl, rfl, rfl, by decide +kernel, rfl, by decide +kernel, by decide +kernel⟩
theorem scJarsInit : FnScope ["self", "sizes", "size"] ["self", "sizes"] (defScope sJarsInit) := ⟨rfl, rfl, rfl, by decide +kernel, rfl, by decide +kernel, by decide +kernel⟩
theorem scPourInit : FnScope ["self", "a", "b"] ["self", "a", "b"] (defScope sPourInit) := ⟨rfl, rfl, rfl, by decide +kernel, rfl, by decide +kernel, by decide +kernel⟩
theorem scPutInit : FnScope ["self", "a", "k"] ["self", "a", "k"] (defScope sPutInit) := ⟨rfl, rfl, rfl, by decide +kernel, rfl, by decide +kernel, by decide +kernel⟩
theorem scDrawInit : FnScope ["self", "a", "k"] ["self", "a", "k"] (defScope sDrawInit) := ⟨rfl, rfl, rfl, by decide +kernel, rfl, by decide +kernel, by decide +kernel⟩
theorem scChangeInit : FnScope ["self", "a", "b"] ["self", "a", "b"] (defScope sChangeInit) := ⟨rfl, rfl, rfl, by decide +kernel, rfl, by decide +kernel, by decide +kernel⟩
theorem scRowInit : FnScope ["self", "jars", "deeds", "deed"] ["self", "jars", "deeds"] (defScope sRowInit) := ⟨rfl, rfl, rfl, by decide +kernel, rfl, by decide +kernel, by decide +kernel⟩
theorem sccheckstart : FnScope ["jars", "start", "parts", "jar", "size"] ["jars", "start", "parts"] (defScope scheckstart) := ⟨rfl, rfl, rfl, by decide +kernel, rfl, by decide +kernel, by decide +kernel⟩
theorem scbehinddeed : FnScope ["jars", "deed", "stand", "parts", "after", "a", "b", "moved"] ["jars", "deed", "stand", "parts"] (defScope sbehinddeed) := ⟨rfl, rfl, rfl, by decide +kernel, rfl, by decide +kernel, by decide +kernel⟩
theorem scbehindround : FnScope ["row", "stand", "parts", "after", "deed"] ["row", "stand", "parts"] (defScope sbehindround) := ⟨rfl, rfl, rfl, by decide +kernel, rfl, by decide +kernel, by decide +kernel⟩
theorem scbehind : FnScope ["row", "start", "parts", "times", "stand", "_"] ["row", "start", "parts", "times"] (defScope sbehind) := ⟨rfl, rfl, rfl, by decide +kernel, rfl, by decide +kernel, by decide +kernel⟩
theorem scLstate : FnScope ["_law_source"] ["_law_source"] (defScope sLstate) := ⟨rfl, rfl, rfl, by decide +kernel, rfl, by decide +kernel, by decide +kernel⟩
theorem scLdigit : FnScope ["_law_state_here", "_law_base", "_law_found", "_law_mixed"] ["_law_state_here", "_law_base"] (defScope sLdigit) := ⟨rfl, rfl, rfl, by decide +kernel, rfl, by decide +kernel, by decide +kernel⟩
theorem scLdeed : FnScope ["_law_s", "_law_sizes", "_law_many", "_law_a", "_law_way", "_law_b"] ["_law_s", "_law_sizes"] (defScope sLdeed) := ⟨rfl, rfl, rfl, by decide +kernel, rfl, by decide +kernel, by decide +kernel⟩
theorem scLhouse : FnScope ["_law_s", "_law_jars", "_law_most", "_law_deeds", "_law_sizes", "_law_k"] ["_law_s", "_law_jars", "_law_most", "_law_deeds"] (defScope sLhouse) := ⟨rfl, rfl, rfl, by decide +kernel, rfl, by decide +kernel, by decide +kernel⟩
theorem scLrow : FnScope ["_law_sizes", "_law_deeds", "_law_found", "_law_word", "_law_a", "_law_last"] ["_law_sizes", "_law_deeds"] (defScope sLrow) := ⟨rfl, rfl, rfl, by decide +kernel, rfl, by decide +kernel, by decide +kernel⟩
theorem scLonce : FnScope ["_law_sizes", "_law_deeds", "_law_start", "_law_share", "_law_amounts", "_law_word", "_law_a", "_law_last", "_law_both"] ["_law_sizes", "_law_deeds", "_law_start", "_law_share"] (defScope sLonce) := ⟨rfl, rfl, rfl, by decide +kernel, rfl, by decide +kernel, by decide +kernel⟩
theorem scLapart : FnScope ["_law_one", "_law_other", "_law_mine", "_law_two"] ["_law_one", "_law_other"] (defScope sLapart) := ⟨rfl, rfl, rfl, by decide +kernel, rfl, by decide +kernel, by decide +kernel⟩
theorem scLbelow : FnScope ["_law_s", "_law_start", "_law_amount"] ["_law_s", "_law_start"] (defScope sLbelow) := ⟨rfl, rfl, rfl, by decide +kernel, rfl, by decide +kernel, by decide +kernel⟩
theorem scLallonce : FnScope ["_law_row_here", "_law_starts", "_law_share", "_law_start"] ["_law_row_here", "_law_starts", "_law_share"] (defScope sLallonce) := ⟨rfl, rfl, rfl, by decide +kernel, rfl, by decide +kernel, by decide +kernel⟩
theorem scLgoneon : FnScope ["_law_row_here", "_law_sizes", "_law_deeds", "_law_starts", "_law_share", "_law_turn", "_law_later", "_law_start", "_law_k", "_law_one", "_law_other"] ["_law_row_here", "_law_sizes", "_law_deeds", "_law_starts", "_law_share"] (defScope sLgoneon) := ⟨rfl, rfl, rfl, by decide +kernel, rfl, by decide +kernel, by decide +kernel⟩
theorem sclaw : FnScope ["_law_script", "_law_number", "_law_s", "_law_sizes", "_law_deeds", "_law_word", "_law_a", "_law_last", "_law_row_here", "_law_share", "_law_greater", "_law_size", "_law_starts", "_law_kept", "_law_start", "_law_due", "_law_amount", "_law_one"] ["_law_script"] (defScope slaw) := ⟨rfl, rfl, rfl, by decide +kernel, rfl, by decide +kernel, by decide +kernel⟩
structure TyIns (K : PySem.W.Frag) (C : Addr) : Prop where
  ha : PySem.W.findIn K (.ref C) "__class__" = some (some (.builtin "object.__class__"))
  hn : PySem.W.specialIn K (.builtin "object.__class__") "__get__" = some (some (.builtin "getset_descriptor.__get__"))
  ht : PySem.W.takesIn K (.builtin "object.__class__") = some true
  hm : PySem.W.mroIn K C (.type "object") = some true
structure Tx (K : PySem.W.Frag) (mg : Str → Option Value) : Type where
  cJars : Addr
  cPour : Addr
  cPut : Addr
  cDraw : Addr
  cChange : Addr
  cRow : Addr
  acheckmuch : Addr
  dcheckmuch : FuncData
  acheckjar : Addr
  dcheckjar : FuncData
  acheckdeed : Addr
  dcheckdeed : FuncData
  aJarsInit : Addr
  dJarsInit : FuncData
  aPourInit : Addr
  dPourInit : FuncData
  aPutInit : Addr
  dPutInit : FuncData
  aDrawInit : Addr
  dDrawInit : FuncData
  aChangeInit : Addr
  dChangeInit : FuncData
  aRowInit : Addr
  dRowInit : FuncData
  acheckstart : Addr
  dcheckstart : FuncData
  abehinddeed : Addr
  dbehinddeed : FuncData
  abehindround : Addr
  dbehindround : FuncData
  abehind : Addr
  dbehind : FuncData
  aLstate : Addr
  dLstate : FuncData
  aLdigit : Addr
  dLdigit : FuncData
  aLdeed : Addr
  dLdeed : FuncData
  aLhouse : Addr
  dLhouse : FuncData
  aLrow : Addr
  dLrow : FuncData
  aLonce : Addr
  dLonce : FuncData
  aLapart : Addr
  dLapart : FuncData
  aLbelow : Addr
  dLbelow : FuncData
  aLallonce : Addr
  dLallonce : FuncData
  aLgoneon : Addr
  dLgoneon : FuncData
  alaw : Addr
  dlaw : FuncData
  tMOSTJARS : Tok
  tMOSTDEEDS : Tok
  tMOSTMUCH : Tok
  tMOSTTIMES : Tok
  fcheckmuch : Fun K "check_much" "check_much" scheckmuch acheckmuch dcheckmuch
  bcheckmuch : Binds K dcheckmuch ["what", "much"] []
  gcheckmuch : mg "check_much" = some (.ref acheckmuch)
  fcheckjar : Fun K "check_jar" "check_jar" scheckjar acheckjar dcheckjar
  bcheckjar : Binds K dcheckjar ["jars", "jar"] []
  gcheckjar : mg "check_jar" = some (.ref acheckjar)
  fcheckdeed : Fun K "check_deed" "check_deed" scheckdeed acheckdeed dcheckdeed
  bcheckdeed : Binds K dcheckdeed ["jars", "deed"] []
  gcheckdeed : mg "check_deed" = some (.ref acheckdeed)
  fJarsInit : Fun K "__init__" "Jars.__init__" sJarsInit aJarsInit dJarsInit
  bJarsInit : Binds K dJarsInit ["self", "sizes"] []
  fPourInit : Fun K "__init__" "Pour.__init__" sPourInit aPourInit dPourInit
  bPourInit : Binds K dPourInit ["self", "a", "b"] []
  fPutInit : Fun K "__init__" "Put.__init__" sPutInit aPutInit dPutInit
  bPutInit : Binds K dPutInit ["self", "a", "k"] []
  fDrawInit : Fun K "__init__" "Draw.__init__" sDrawInit aDrawInit dDrawInit
  bDrawInit : Binds K dDrawInit ["self", "a", "k"] []
  fChangeInit : Fun K "__init__" "Change.__init__" sChangeInit aChangeInit dChangeInit
  bChangeInit : Binds K dChangeInit ["self", "a", "b"] []
  fRowInit : Fun K "__init__" "Row.__init__" sRowInit aRowInit dRowInit
  bRowInit : Binds K dRowInit ["self", "jars", "deeds"] []
  fcheckstart : Fun K "check_start" "check_start" scheckstart acheckstart dcheckstart
  bcheckstart : Binds K dcheckstart ["jars", "start", "parts"] []
  gcheckstart : mg "check_start" = some (.ref acheckstart)
  fbehinddeed : Fun K "behind_deed" "behind_deed" sbehinddeed abehinddeed dbehinddeed
  bbehinddeed : Binds K dbehinddeed ["jars", "deed", "stand", "parts"] []
  gbehinddeed : mg "behind_deed" = some (.ref abehinddeed)
  fbehindround : Fun K "behind_round" "behind_round" sbehindround abehindround dbehindround
  bbehindround : Binds K dbehindround ["row", "stand", "parts"] []
  gbehindround : mg "behind_round" = some (.ref abehindround)
  fbehind : FunD K "behind" "behind" (defArgs sbehind) (defBody sbehind) (defScope sbehind) [] [("parts", .int 1), ("times", .int 1)] abehind dbehind
  gbehind : mg "behind" = some (.ref abehind)
  fLstate : Fun K "_law_state" "_law_state" sLstate aLstate dLstate
  bLstate : Binds K dLstate ["_law_source"] []
  gLstate : mg "_law_state" = some (.ref aLstate)
  fLdigit : Fun K "_law_digit" "_law_digit" sLdigit aLdigit dLdigit
  bLdigit : Binds K dLdigit ["_law_state_here", "_law_base"] []
  gLdigit : mg "_law_digit" = some (.ref aLdigit)
  fLdeed : Fun K "_law_deed" "_law_deed" sLdeed aLdeed dLdeed
  bLdeed : Binds K dLdeed ["_law_s", "_law_sizes"] []
  gLdeed : mg "_law_deed" = some (.ref aLdeed)
  fLhouse : Fun K "_law_house" "_law_house" sLhouse aLhouse dLhouse
  bLhouse : Binds K dLhouse ["_law_s", "_law_jars", "_law_most", "_law_deeds"] []
  gLhouse : mg "_law_house" = some (.ref aLhouse)
  fLrow : Fun K "_law_row" "_law_row" sLrow aLrow dLrow
  bLrow : Binds K dLrow ["_law_sizes", "_law_deeds"] []
  gLrow : mg "_law_row" = some (.ref aLrow)
  fLonce : Fun K "_law_once" "_law_once" sLonce aLonce dLonce
  bLonce : Binds K dLonce ["_law_sizes", "_law_deeds", "_law_start", "_law_share"] []
  gLonce : mg "_law_once" = some (.ref aLonce)
  fLapart : Fun K "_law_apart" "_law_apart" sLapart aLapart dLapart
  bLapart : Binds K dLapart ["_law_one", "_law_other"] []
  gLapart : mg "_law_apart" = some (.ref aLapart)
  fLbelow : Fun K "_law_below" "_law_below" sLbelow aLbelow dLbelow
  bLbelow : Binds K dLbelow ["_law_s", "_law_start"] []
  gLbelow : mg "_law_below" = some (.ref aLbelow)
  fLallonce : Fun K "_law_all_once" "_law_all_once" sLallonce aLallonce dLallonce
  bLallonce : Binds K dLallonce ["_law_row_here", "_law_starts", "_law_share"] []
  gLallonce : mg "_law_all_once" = some (.ref aLallonce)
  fLgoneon : Fun K "_law_gone_on" "_law_gone_on" sLgoneon aLgoneon dLgoneon
  bLgoneon : Binds K dLgoneon ["_law_row_here", "_law_sizes", "_law_deeds", "_law_starts", "_law_share"] []
  gLgoneon : mg "_law_gone_on" = some (.ref aLgoneon)
  flaw : Fun K "law" "law" slaw alaw dlaw
  blaw : Binds K dlaw ["_law_script"] []
  glaw : mg "law" = some (.ref alaw)
  mJars : mg "Jars" = some (.ref cJars)
  lJars : Cls K cJars
  kJars : Mk K cJars aJarsInit
  nJars_sizes : NoAttr K cJars "sizes"
  mPour : mg "Pour" = some (.ref cPour)
  lPour : Cls K cPour
  kPour : Mk K cPour aPourInit
  nPour_a : NoAttr K cPour "a"
  nPour_b : NoAttr K cPour "b"
  mPut : mg "Put" = some (.ref cPut)
  lPut : Cls K cPut
  kPut : Mk K cPut aPutInit
  nPut_a : NoAttr K cPut "a"
  nPut_k : NoAttr K cPut "k"
  mDraw : mg "Draw" = some (.ref cDraw)
  lDraw : Cls K cDraw
  kDraw : Mk K cDraw aDrawInit
  nDraw_a : NoAttr K cDraw "a"
  nDraw_k : NoAttr K cDraw "k"
  mChange : mg "Change" = some (.ref cChange)
  lChange : Cls K cChange
  kChange : Mk K cChange aChangeInit
  nChange_a : NoAttr K cChange "a"
  nChange_b : NoAttr K cChange "b"
  mRow : mg "Row" = some (.ref cRow)
  lRow : Cls K cRow
  kRow : Mk K cRow aRowInit
  nRow_jars : NoAttr K cRow "jars"
  nRow_deeds : NoAttr K cRow "deeds"
  yChange : TyIns K cChange
  yDraw : TyIns K cDraw
  yPour : TyIns K cPour
  yPut : TyIns K cPut
  iPour_Put : PySem.W.kitOne K (.ref cPour) (.ref cPut) = some false
  iPour_Draw : PySem.W.kitOne K (.ref cPour) (.ref cDraw) = some false
  iPour_Pour : PySem.W.kitOne K (.ref cPour) (.ref cPour) = some true
  iPour_Change : PySem.W.kitOne K (.ref cPour) (.ref cChange) = some false
  iPut_Put : PySem.W.kitOne K (.ref cPut) (.ref cPut) = some true
  iPut_Draw : PySem.W.kitOne K (.ref cPut) (.ref cDraw) = some false
  iPut_Pour : PySem.W.kitOne K (.ref cPut) (.ref cPour) = some false
  iPut_Change : PySem.W.kitOne K (.ref cPut) (.ref cChange) = some false
  iDraw_Put : PySem.W.kitOne K (.ref cDraw) (.ref cPut) = some false
  iDraw_Draw : PySem.W.kitOne K (.ref cDraw) (.ref cDraw) = some true
  iDraw_Pour : PySem.W.kitOne K (.ref cDraw) (.ref cPour) = some false
  iDraw_Change : PySem.W.kitOne K (.ref cDraw) (.ref cChange) = some false
  iChange_Put : PySem.W.kitOne K (.ref cChange) (.ref cPut) = some false
  iChange_Draw : PySem.W.kitOne K (.ref cChange) (.ref cDraw) = some false
  iChange_Pour : PySem.W.kitOne K (.ref cChange) (.ref cPour) = some false
  iChange_Change : PySem.W.kitOne K (.ref cChange) (.ref cChange) = some true
  cMOSTJARS : mg "MOST_JARS" = some (.int 6 tMOSTJARS)
  cMOSTDEEDS : mg "MOST_DEEDS" = some (.int 20 tMOSTDEEDS)
  cMOSTMUCH : mg "MOST_MUCH" = some (.int 1000000000000 tMOSTMUCH)
  cMOSTTIMES : mg "MOST_TIMES" = some (.int 1000 tMOSTTIMES)
  nabs : mg "abs" = none
  nenumerate : mg "enumerate" = none
  nint : mg "int" = none
  nisinstance : mg "isinstance" = none
  nlen : mg "len" = none
  nlist : mg "list" = none
  nmax : mg "max" = none
  nmin : mg "min" = none
  nrange : mg "range" = none
  nrepr : mg "repr" = none
  nsum : mg "sum" = none
  ntuple : mg "tuple" = none
  nzip : mg "zip" = none
/-! ### fields -/
theorem put2 {a b : Str} {u v : V} (h : ¬ a = b) : putF b v (putF a u []) = ([(a, u), (b, v)] : List (Str × V)) := by
  show (if a = b then [(a, v)] else (a, u) :: putF b v []) = [(a, u), (b, v)]
  rw [if_neg h]
  rfl
theorem lk1 {a : Str} {x : V} {r : List (Str × V)} : List.lookup a ((a, x) :: r) = some x := by simp [List.lookup]
theorem lk2 {a b : Str} {x y : V} (h : ¬ b = a) : List.lookup b [(a, x), (b, y)] = some y := by
  have : (b == a) = false := by simpa using h
  simp [List.lookup, this]
/-! ### things in the heap -/
section
variable {K : PySem.W.Frag} {mg : Str → Option Value}
def f1s (a : Str) (x : V) : List (Str × V) := [(a, x)]
def f2s (a : Str) (x : V) (b : Str) (y : V) : List (Str × V) := [(a, x), (b, y)]
def DeedAt (T : Tx K mg) (H : Hp) (v : V) (d : D) : Prop := ∃ p dx, v = .ref p ∧ match d with
  | .pour a b => H p = some (.ins T.cPour dx (f2s "a" (.int a) "b" (.int b)))
  | .put a k => H p = some (.ins T.cPut dx (f2s "a" (.int a) "k" (.int k)))
  | .draw a k => H p = some (.ins T.cDraw dx (f2s "a" (.int a) "k" (.int k)))
  | .change a b => H p = some (.ins T.cChange dx (f2s "a" (.int a) "b" (.int b)))
def JarsAt (T : Tx K mg) (H : Hp) (p : Addr) (caps : List Int) : Prop := ∃ dx t, H p = some (.ins T.cJars dx (f1s "sizes" (.ref t))) ∧ H t = some (.tup (vi caps))
def RowAt (T : Tx K mg) (H : Hp) (r : Addr) (caps : List Int) (ds : List D) : Prop := ∃ dx j t vs, H r = some (.ins T.cRow dx (f2s "jars" (.ref j) "deeds" (.ref t))) ∧ JarsAt T H j caps ∧ H t = some (.tup vs) ∧ A2 (DeedAt T H) vs ds
theorem DeedAt.same {T : Tx K mg} {H H' : Hp} {v : V} {d : D} (e : Same H H') (h : DeedAt T H v d) : DeedAt T H' v d := by
  obtain ⟨p, dx, rfl, h⟩ := h
  refine ⟨p, dx, rfl, ?_⟩
  cases d <;> exact e _ _ h
theorem JarsAt.same {T : Tx K mg} {H H' : Hp} {p : Addr} {caps : List Int} (e : Same H H') (h : JarsAt T H p caps) : JarsAt T H' p caps := by
  obtain ⟨dx, t, h1, h2⟩ := h
  exact ⟨dx, t, e _ _ h1, e _ _ h2⟩
theorem RowAt.same {T : Tx K mg} {H H' : Hp} {p : Addr} {caps : List Int} {ds : List D} (e : Same H H') (h : RowAt T H p caps ds) : RowAt T H' p caps ds := by
  obtain ⟨dx, j, t, vs, h1, h2, h3, h4⟩ := h
  exact ⟨dx, j, t, vs, e _ _ h1, h2.same e, e _ _ h3, A2.mono (fun _ _ q => q.same e) h4⟩
/-- a list, or an instance without fields: what a def may change -/
def Blank (o : HO) : Prop := (∃ ws, o = .lst ws) ∨ ∃ C dx, o = .ins C dx []
theorem bl_l {ws : List V} : Blank (.lst ws) := .inl ⟨ws, rfl⟩
theorem bl_i {C dx : Addr} : Blank (.ins C dx []) := .inr ⟨C, dx, rfl⟩
theorem nb1 {C dx : Addr} {a : Str} {x : V} : ¬ Blank (.ins C dx (f1s a x)) := by
  rintro (⟨_, z⟩ | ⟨_, _, z⟩)
  · cases z
  · injection z with _ _ z
    cases z
theorem nb2 {C dx : Addr} {a b : Str} {x y : V} : ¬ Blank (.ins C dx (f2s a x b y)) := by
  rintro (⟨_, z⟩ | ⟨_, _, z⟩)
  · cases z
  · injection z with _ _ z
    cases z
theorem nbT {xs : List V} : ¬ Blank (.tup xs) := by
  rintro (⟨_, z⟩ | ⟨_, _, z⟩) <;> cases z
/-- all but one thing at w stays: what is no list stays -/
theorem fr_no {w : Addr} {H H' : Hp} {u : HO} {b : Addr} {o : HO} (e : Fr w H H') (hw : H w = some u) (hb : Blank u) (h : H b = some o) (n : ¬ Blank o) : H' b = some o :=
  e b o (fun z => by rw [z, hw] at h; cases h; exact n hb) h
theorem DeedAt.fr {T : Tx K mg} {w : Addr} {H H' : Hp} {u : HO} {v : V} {d : D} (e : Fr w H H') (hw : H w = some u) (hb : Blank u) (h : DeedAt T H v d) : DeedAt T H' v d := by
  obtain ⟨p, dx, rfl, h⟩ := h
  refine ⟨p, dx, rfl, ?_⟩
  cases d <;> exact fr_no e hw hb h nb2
theorem JarsAt.fr {T : Tx K mg} {w : Addr} {H H' : Hp} {u : HO} {p : Addr} {caps : List Int} (e : Fr w H H') (hw : H w = some u) (hb : Blank u) (h : JarsAt T H p caps) : JarsAt T H' p caps := by
  obtain ⟨dx, t, h1, h2⟩ := h
  exact ⟨dx, t, fr_no e hw hb h1 nb1, fr_no e hw hb h2 nbT⟩
theorem RowAt.fr {T : Tx K mg} {w : Addr} {H H' : Hp} {u : HO} {p : Addr} {caps : List Int} {ds : List D} (e : Fr w H H') (hw : H w = some u) (hb : Blank u) (h : RowAt T H p caps ds) : RowAt T H' p caps ds := by
  obtain ⟨dx, j, t, vs, h1, h2, h3, h4⟩ := h
  exact ⟨dx, j, t, vs, fr_no e hw hb h1 nb2, h2.fr e hw hb, fr_no e hw hb h3 nbT, A2.mono (fun _ _ q => q.fr e hw hb) h4⟩
/-! ### the promises of the program's defs -/
def spcheckmuch (T : Tx K mg) : Sp := fun vs H Q _ => ∃ (x : Str) (n : Int), vs = [.str x, .int n] ∧ 1 ≤ n ∧ n ≤ 1000000000000 ∧ Q .non H
def spcheckjar (T : Tx K mg) : Sp := fun vs H Q _ => ∃ (j : Addr) (caps : List Int) (i : Nat), vs = [.ref j, .int i] ∧ JarsAt T H j caps ∧ i < caps.length ∧ Q .non H
def spcheckdeed (T : Tx K mg) : Sp := fun vs H Q _ => ∃ (j : Addr) (caps : List Int) (v : V) (d : D), vs = [.ref j, v] ∧ JarsAt T H j caps ∧ DeedAt T H v d ∧ d.ok caps ∧ Q .non H
def spJarsInit (T : Tx K mg) : Sp := fun vs H Q _ => ∃ (p dx a : Addr) (caps : List Int), vs = [.ref p, .ref a] ∧ H p = some (.ins T.cJars dx []) ∧ SqL K H a (vi caps) ∧ Caps caps ∧
  ∀ H', JarsAt T H' p caps → Fr p H H' → Q .non H'
/-- an __init__ that stores two ints -/
def spTwo (C : Addr) (f g : Str) : Sp := fun vs H Q _ => ∃ (p dx : Addr) (u v : V), vs = [.ref p, u, v] ∧ H p = some (.ins C dx []) ∧ ∀ H', H' p = some (.ins C dx (f2s f u g v)) → Fr p H H' → Q .non H'
def spPourInit (T : Tx K mg) : Sp := spTwo T.cPour "a" "b"
def spPutInit (T : Tx K mg) : Sp := spTwo T.cPut "a" "k"
def spDrawInit (T : Tx K mg) : Sp := spTwo T.cDraw "a" "k"
def spChangeInit (T : Tx K mg) : Sp := spTwo T.cChange "a" "b"
def spRowInit (T : Tx K mg) : Sp := fun vs H Q _ => ∃ (p dx j a : Addr) (caps : List Int) (us : List V) (ds : List D), vs = [.ref p, .ref j, .ref a] ∧ H p = some (.ins T.cRow dx []) ∧ JarsAt T H j caps ∧ H a = some (.lst us) ∧ A2 (DeedAt T H) us ds ∧
  ds.length ≤ 20 ∧ (∀ d ∈ ds, d.ok caps) ∧ ∀ H', RowAt T H' p caps ds → Fr p H H' → Q .non H'
def spcheckstart (T : Tx K mg) : Sp := fun vs H Q _ => ∃ (j a : Addr) (caps st : List Int) (p : Int), vs = [.ref j, .ref a, .int p] ∧ JarsAt T H j caps ∧ (SqL K H a (vi st) ∨ SqT K H a (vi st)) ∧ 1 ≤ p ∧ p < 2 ^ 62 ∧ Stand caps p st ∧
  ∀ H', Same H H' → Q .non H'
def spbehinddeed (T : Tx K mg) : Sp := fun vs H Q _ => ∃ (j a : Addr) (v : V) (d : D) (caps st : List Int) (p : Int), vs = [.ref j, v, .ref a, .int p] ∧ JarsAt T H j caps ∧ DeedAt T H v d ∧ d.ok caps ∧ SqL K H a (vi st) ∧ 1 ≤ p ∧ p < 2 ^ 62 ∧ st.length = caps.length ∧
  ∀ (H' : Hp) (q : Addr), H q = none → H' q = some (.lst (vi (d.act caps p st))) → Same H H' → Q (.ref q) H'
def spbehindround (T : Tx K mg) : Sp := fun vs H Q _ => ∃ (r a : Addr) (ds : List D) (caps st : List Int) (p : Int), vs = [.ref r, .ref a, .int p] ∧ RowAt T H r caps ds ∧ (∀ d ∈ ds, d.ok caps) ∧ SqL K H a (vi st) ∧ 1 ≤ p ∧ p < 2 ^ 62 ∧ st.length = caps.length ∧
  ∀ (H' : Hp) (q : Addr), H q = none → H' q = some (.lst (vi (run caps p ds st))) → Same H H' → Q (.ref q) H'
def spbehind (T : Tx K mg) : Sp := fun vs H Q _ => ∃ (r a : Addr) (ds : List D) (caps st : List Int) (p : Int) (n : Nat), vs = [.ref r, .ref a, .int p, .int n] ∧ RowAt T H r caps ds ∧ (∀ d ∈ ds, d.ok caps) ∧ (SqL K H a (vi st) ∨ SqT K H a (vi st)) ∧ 1 ≤ p ∧ p < 2 ^ 62 ∧ n ≤ 1000 ∧ Stand caps p st ∧
  ∀ (H' : Hp) (q : Addr), H q = none → H' q = some (.lst (vi (runs caps p ds n st))) → Same H H' → Q (.ref q) H'
end
section
variable {P : Program} {w : World} {K : PySem.W.Frag} {mg : Str → Option Value} {base : Heap}
/-! ### the program's bodies -/
theorem okcheckmuch (T : Tx K mg) : FnOk P w K mg base CX0 1 T.acheckmuch T.dcheckmuch ["what", "much"] (spcheckmuch T) := by
  refine T.fcheckmuch.ok sccheckmuch (fun vs H Q E h => ?_) (fun cdv A outer s H vs Q E hr h => ?_)
  · obtain ⟨x, n, rfl, _⟩ := h
    rfl
  · obtain ⟨x, n, rfl, h1, h2, hq⟩ := h
    refine ⟨_, (pss_one (ps_if (pt_not (pt_chain op_le op_le pe_int (pv 1) (pe_glob (v := .int 1000000000000) rfl T.cMOSTMUCH ⟨_, rfl⟩))) (pss_one ps_never) pss_nil)), ?_⟩
    refine ⟨_, rfl, _, _, rfl, rfl, _, rfl, ifT (decide_eq_true h1) ?_⟩
    exact ⟨_, _, rfl, rfl, _, rfl, iteNS h2 hq⟩
theorem okcheckjar (T : Tx K mg) : FnOk P w K mg base CX0 1 T.acheckjar T.dcheckjar ["jars", "jar"] (spcheckjar T) := by
  refine T.fcheckjar.ok sccheckjar (fun vs H Q E h => ?_) (fun cdv A outer s H vs Q E hr h => ?_)
  · obtain ⟨j, caps, i, rfl, _⟩ := h
    rfl
  · obtain ⟨j, caps, i, rfl, ⟨dx, t, e1, e2⟩, hi, hq⟩ := h
    refine ⟨_, (pss_one (ps_if (pt_not (pt_chain op_le op_lt pe_int (pv 1) (pe_callB call_len_seq rfl T.nlen PySem.boot_len (pa_cons (pe_fld (pv 0) rfl) pa_nil)))) (pss_one ps_never) pss_nil)), ?_⟩
    refine ⟨_, rfl, _, _, rfl, rfl, _, rfl, ifT (decide_eq_true (by omega)) ?_⟩
    refine ⟨_, rfl, j, _, dx, _, _, rfl, e1, T.lJars, T.nJars_sizes, lk1, t, _, rfl, .inr (SqT.of e2), _, _, rfl, rfl, _, rfl, iteNS (by rw [List.length_map]; omega) hq⟩
theorem okPourInit (T : Tx K mg) : FnOk P w K mg base CX0 1 T.aPourInit T.dPourInit ["self", "a", "b"] (spPourInit T) := by
  refine T.fPourInit.ok scPourInit (fun vs H Q E h => ?_) (fun cdv A outer s H vs Q E hr h => ?_)
  · obtain ⟨p, dx, u, v, rfl, _⟩ := h
    rfl
  · obtain ⟨p, dx, u, v, rfl, hp, hq⟩ := h
    refine ⟨_, (pss_cons (ps_fld (pv 0) (pv 1) rfl)
      (pss_one (ps_fld (pv 0) (pv 2) rfl))), ?_⟩
    refine ⟨_, rfl, _, rfl, p, _, dx, _, rfl, hp, T.lPour, T.nPour_a, (by show 0 < 1000; decide), ?_⟩
    refine ⟨_, rfl, _, rfl, p, _, dx, _, rfl, upd_same, T.lPour, T.nPour_b, (by show 1 < 1000; decide), ?_⟩
    refine hq _ ?_ (fr_mut (fr_mut (Fr.refl _ _)))
    rw [upd_same, put2 (by decide +kernel)]
    rfl
theorem okPutInit (T : Tx K mg) : FnOk P w K mg base CX0 1 T.aPutInit T.dPutInit ["self", "a", "k"] (spPutInit T) := by
  refine T.fPutInit.ok scPutInit (fun vs H Q E h => ?_) (fun cdv A outer s H vs Q E hr h => ?_)
  · obtain ⟨p, dx, u, v, rfl, _⟩ := h
    rfl
  · obtain ⟨p, dx, u, v, rfl, hp, hq⟩ := h
    refine ⟨_, (pss_cons (ps_fld (pv 0) (pv 1) rfl)
      (pss_one (ps_fld (pv 0) (pv 2) rfl))), ?_⟩
    refine ⟨_, rfl, _, rfl, p, _, dx, _, rfl, hp, T.lPut, T.nPut_a, (by show 0 < 1000; decide), ?_⟩
    refine ⟨_, rfl, _, rfl, p, _, dx, _, rfl, upd_same, T.lPut, T.nPut_k, (by show 1 < 1000; decide), ?_⟩
    refine hq _ ?_ (fr_mut (fr_mut (Fr.refl _ _)))
    rw [upd_same, put2 (by decide +kernel)]
    rfl
theorem okDrawInit (T : Tx K mg) : FnOk P w K mg base CX0 1 T.aDrawInit T.dDrawInit ["self", "a", "k"] (spDrawInit T) := by
  refine T.fDrawInit.ok scDrawInit (fun vs H Q E h => ?_) (fun cdv A outer s H vs Q E hr h => ?_)
  · obtain ⟨p, dx, u, v, rfl, _⟩ := h
    rfl
  · obtain ⟨p, dx, u, v, rfl, hp, hq⟩ := h
    refine ⟨_, (pss_cons (ps_fld (pv 0) (pv 1) rfl)
      (pss_one (ps_fld (pv 0) (pv 2) rfl))), ?_⟩
    refine ⟨_, rfl, _, rfl, p, _, dx, _, rfl, hp, T.lDraw, T.nDraw_a, (by show 0 < 1000; decide), ?_⟩
    refine ⟨_, rfl, _, rfl, p, _, dx, _, rfl, upd_same, T.lDraw, T.nDraw_k, (by show 1 < 1000; decide), ?_⟩
    refine hq _ ?_ (fr_mut (fr_mut (Fr.refl _ _)))
    rw [upd_same, put2 (by decide +kernel)]
    rfl
theorem okChangeInit (T : Tx K mg) : FnOk P w K mg base CX0 1 T.aChangeInit T.dChangeInit ["self", "a", "b"] (spChangeInit T) := by
  refine T.fChangeInit.ok scChangeInit (fun vs H Q E h => ?_) (fun cdv A outer s H vs Q E hr h => ?_)
  · obtain ⟨p, dx, u, v, rfl, _⟩ := h
    rfl
  · obtain ⟨p, dx, u, v, rfl, hp, hq⟩ := h
    refine ⟨_, (pss_cons (ps_fld (pv 0) (pv 1) rfl)
      (pss_one (ps_fld (pv 0) (pv 2) rfl))), ?_⟩
    refine ⟨_, rfl, _, rfl, p, _, dx, _, rfl, hp, T.lChange, T.nChange_a, (by show 0 < 1000; decide), ?_⟩
    refine ⟨_, rfl, _, rfl, p, _, dx, _, rfl, upd_same, T.lChange, T.nChange_b, (by show 1 < 1000; decide), ?_⟩
    refine hq _ ?_ (fr_mut (fr_mut (Fr.refl _ _)))
    rw [upd_same, put2 (by decide +kernel)]
    rfl
end
end Kp

namespace Kp
open PySem PySem.Spec PyProof.Rows L2 KpR
section
variable {P : Program} {w : World} {K : PySem.W.Frag} {mg : Str → Option Value} {base : Heap}
/-! ### isinstance of a deed -/
def D.cls (T : Tx K mg) : D → Addr
  | .pour _ _ => T.cPour
  | .put _ _ => T.cPut
  | .draw _ _ => T.cDraw
  | .change _ _ => T.cChange
def D.fst : D → Nat
  | .pour a _ => a
  | .put a _ => a
  | .draw a _ => a
  | .change a _ => a
def D.fs : D → List (Str × V)
  | .pour a b => f2s "a" (.int a) "b" (.int b)
  | .put a k => f2s "a" (.int a) "k" (.int k)
  | .draw a k => f2s "a" (.int a) "k" (.int k)
  | .change a b => f2s "a" (.int a) "b" (.int b)
theorem deed_at {T : Tx K mg} {H : Hp} {v : V} {d : D} (h : DeedAt T H v d) : ∃ p dx, v = .ref p ∧ H p = some (.ins (d.cls T) dx d.fs) := by
  obtain ⟨p, dx, rfl, h⟩ := h
  cases d <;> exact ⟨p, dx, rfl, h⟩
theorem cls_cls (T : Tx K mg) (d : D) : Cls K (d.cls T) := by
  cases d
  · exact T.lPour
  · exact T.lPut
  · exact T.lDraw
  · exact T.lChange
theorem no_a (T : Tx K mg) (d : D) : NoAttr K (d.cls T) "a" := by
  cases d
  · exact T.nPour_a
  · exact T.nPut_a
  · exact T.nDraw_a
  · exact T.nChange_a
theorem fs_a (d : D) : d.fs.lookup ("a" : Str) = some (.int d.fst) := by
  cases d <;> exact lk1
theorem ty_deed {T : Tx K mg} {H : Hp} {p dx : Addr} {d : D} (h : H p = some (.ins (d.cls T) dx d.fs)) : TyX K H (.ref p) (.ref (d.cls T)) := by
  refine .base ?_
  cases d
  · exact .ins h T.lPour T.yPour.ha T.yPour.hn T.yPour.ht T.yPour.hm
  · exact .ins h T.lPut T.yPut.ha T.yPut.hn T.yPut.ht T.yPut.hm
  · exact .ins h T.lDraw T.yDraw.ha T.yDraw.hn T.yDraw.ht T.yDraw.hm
  · exact .ins h T.lChange T.yChange.ha T.yChange.hn T.yChange.ht T.yChange.hm
def D.isPut : D → Bool
  | .put _ _ => true
  | _ => false
def D.isDraw : D → Bool
  | .draw _ _ => true
  | _ => false
def D.isPour : D → Bool
  | .pour _ _ => true
  | _ => false
def D.isChange : D → Bool
  | .change _ _ => true
  | _ => false
theorem is_put (T : Tx K mg) (d : D) : PySem.W.kitOne K (.ref (d.cls T)) (.ref T.cPut) = some d.isPut := by
  cases d
  · exact T.iPour_Put
  · exact T.iPut_Put
  · exact T.iDraw_Put
  · exact T.iChange_Put
theorem is_draw (T : Tx K mg) (d : D) : PySem.W.kitOne K (.ref (d.cls T)) (.ref T.cDraw) = some d.isDraw := by
  cases d
  · exact T.iPour_Draw
  · exact T.iPut_Draw
  · exact T.iDraw_Draw
  · exact T.iChange_Draw
theorem is_pour (T : Tx K mg) (d : D) : PySem.W.kitOne K (.ref (d.cls T)) (.ref T.cPour) = some d.isPour := by
  cases d
  · exact T.iPour_Pour
  · exact T.iPut_Pour
  · exact T.iDraw_Pour
  · exact T.iChange_Pour
theorem is_change (T : Tx K mg) (d : D) : PySem.W.kitOne K (.ref (d.cls T)) (.ref T.cChange) = some d.isChange := by
  cases d
  · exact T.iPour_Change
  · exact T.iPut_Change
  · exact T.iDraw_Change
  · exact T.iChange_Change
theorem okcheckdeed (T : Tx K mg) : FnOk P w K mg base CX0 2 T.acheckdeed T.dcheckdeed ["jars", "deed"] (spcheckdeed T) := by
  refine T.fcheckdeed.ok sccheckdeed (fun vs H Q E h => ?_) (fun cdv A outer s H vs Q E hr h => ?_)
  · obtain ⟨j, caps, v, d, rfl, _⟩ := h
    rfl
  · obtain ⟨j, caps, v, d, rfl, hJ, hD, ok, hq⟩ := h
    refine ⟨_, (pss_cons (ps_expr (pe_call (okcheckjar T) (hr.mono (by decide)) rfl T.gcheckjar T.fcheckjar.kp T.bcheckjar .nil pass0 (pa_cons (pv 0) (pa_cons (pe_fld (pv 1) rfl) pa_nil))))
      (pss_cons (ps_if (PW.pt (pw_or (pt_val (pe_callB call_isi rfl T.nisinstance (by decide +kernel) (pa_cons (pv 1) (pa_cons (pe_glob (v := .ref T.cPut) rfl T.mPut rfl) pa_nil)))) (pw_or1 (pt_val (pe_callB call_isi rfl T.nisinstance (by decide +kernel) (pa_cons (pv 1) (pa_cons (pe_glob (v := .ref T.cDraw) rfl T.mDraw rfl) pa_nil))))))) (pss_cons (ps_expr (pe_call (okcheckmuch T) (hr.mono (by decide)) rfl T.gcheckmuch T.fcheckmuch.kp T.bcheckmuch .nil pass0 (pa_cons pe_str (pa_cons (pe_fld (pv 1) rfl) pa_nil))))
      (pss_one ps_retN)) pss_nil)
      (pss_cons (ps_expr (pe_call (okcheckjar T) (hr.mono (by decide)) rfl T.gcheckjar T.fcheckjar.kp T.bcheckjar .nil pass0 (pa_cons (pv 0) (pa_cons (pe_fld (pv 1) rfl) pa_nil))))
      (pss_cons (ps_if (pt_cmpR op_eq (pe_fld (pv 1) rfl) (pe_fld (pv 1) rfl) (nomark _)) (pss_one ps_never) pss_nil)
      (pss_one (ps_if (PW.pt (pw_and (pt_val (pe_callB call_isi rfl T.nisinstance (by decide +kernel) (pa_cons (pv 1) (pa_cons (pe_glob (v := .ref T.cChange) rfl T.mChange rfl) pa_nil)))) (pw_and1 (pt_cmpR op_ne (pe_ix (r := rIxT K) ix_tup (pe_fld (pv 0) rfl) (pe_fld (pv 1) rfl) (fun _ _ => rfl)) (pe_ix (r := rIxT K) ix_tup (pe_fld (pv 0) rfl) (pe_fld (pv 1) rfl) (fun _ _ => rfl)) (nomark _))))) (pss_one ps_never) pss_nil)))))), ?_⟩
    obtain ⟨p, dx, rfl, hp⟩ := deed_at hD
    have ty := ty_deed hp
    have ha : d.fst < caps.length := by cases d <;> exact ok.1
    refine ⟨_, rfl, _, rfl, p, _, dx, _, _, rfl, hp, cls_cls T d, no_a T d, fs_a d, j, caps, d.fst, rfl, hJ, ha, ?_⟩
    obtain ⟨jx, t, e1, e2⟩ := hJ
    refine ⟨_, rfl, .ref p, .ref T.cPut, _, _, _, rfl, .own _, ty, is_put T d, _, rfl, ?_⟩
    cases d with
    | put a k =>
      refine ifT rfl (ifT rfl ?_)
      exact ⟨_, rfl, p, _, dx, _, _, rfl, hp, T.lPut, T.nPut_k, lk2 (by decide +kernel), "much", k, rfl, ok.2.1, ok.2.2, hq⟩
    | draw a k =>
      refine ifF rfl ⟨_, rfl, .ref p, .ref T.cDraw, _, _, _, rfl, .own _, ty, T.iDraw_Draw, _, rfl, ifT rfl ?_⟩
      exact ⟨_, rfl, p, _, dx, _, _, rfl, hp, T.lDraw, T.nDraw_k, lk2 (by decide +kernel), "much", k, rfl, ok.2.1, ok.2.2, hq⟩
    | pour a b =>
      refine ifF rfl ⟨_, rfl, .ref p, .ref T.cDraw, _, _, _, rfl, .own _, ty, T.iPour_Draw, _, rfl, ifF rfl ?_⟩
      refine ⟨_, rfl, _, rfl, p, _, dx, _, _, rfl, hp, T.lPour, T.nPour_b, lk2 (by decide +kernel), j, caps, b, rfl, ⟨jx, t, e1, e2⟩, ok.2.1, ?_⟩
      refine ⟨_, rfl, p, _, dx, _, _, rfl, hp, T.lPour, T.nPour_a, lk1, _, rfl, p, _, dx, _, _, rfl, hp, T.lPour, T.nPour_b, lk2 (by decide +kernel), rfl, _, rfl, ifF (decide_eq_false fun z => ok.2.2 (by injection z with z; omega)) ?_⟩
      exact ⟨_, rfl, .ref p, .ref T.cChange, _, _, _, rfl, .own _, ty, T.iPour_Change, _, rfl, ifF rfl (ifF rfl hq)⟩
    | change a b =>
      refine ifF rfl ⟨_, rfl, .ref p, .ref T.cDraw, _, _, _, rfl, .own _, ty, T.iChange_Draw, _, rfl, ifF rfl ?_⟩
      refine ⟨_, rfl, _, rfl, p, _, dx, _, _, rfl, hp, T.lChange, T.nChange_b, lk2 (by decide +kernel), j, caps, b, rfl, ⟨jx, t, e1, e2⟩, ok.2.1, ?_⟩
      refine ⟨_, rfl, p, _, dx, _, _, rfl, hp, T.lChange, T.nChange_a, lk1, _, rfl, p, _, dx, _, _, rfl, hp, T.lChange, T.nChange_b, lk2 (by decide +kernel), rfl, _, rfl, ifF (decide_eq_false fun z => ok.2.2.1 (by injection z with z; omega)) ?_⟩
      refine ⟨_, rfl, .ref p, .ref T.cChange, _, _, _, rfl, .own _, ty, T.iChange_Change, _, rfl, ifT rfl ?_⟩
      refine ⟨_, rfl, j, _, jx, _, _, rfl, e1, T.lJars, T.nJars_sizes, lk1, _, rfl, p, _, dx, _, _, rfl, hp, T.lChange, T.nChange_a, lk1, t, _, _, _, rfl, rfl, SqT.of e2, vi_at ok.1, ?_⟩
      refine ⟨_, rfl, j, _, jx, _, _, rfl, e1, T.lJars, T.nJars_sizes, lk1, _, rfl, p, _, dx, _, _, rfl, hp, T.lChange, T.nChange_b, lk2 (by decide +kernel), t, _, _, _, rfl, rfl, SqT.of e2, vi_at ok.2.1, ?_⟩
      exact ⟨rfl, _, rfl, iteNS (congrArg V.int ok.2.2.2) hq⟩
theorem okJarsInit (T : Tx K mg) : FnOk P w K mg base CX0 2 T.aJarsInit T.dJarsInit ["self", "sizes"] (spJarsInit T) := by
  refine T.fJarsInit.ok scJarsInit (fun vs H Q E h => ?_) (fun cdv A outer s H vs Q E hr h => ?_)
  · obtain ⟨p, dx, a, caps, rfl, _⟩ := h
    rfl
  · obtain ⟨p, dx, a, caps, rfl, hp, hS, hC, hq⟩ := h
    have c1 := hC.l1
    have c6 := hC.l6
    refine ⟨_, (pss_cons (ps_if (pt_not (pt_chain op_le op_le pe_int (pe_callB call_len_seq rfl T.nlen PySem.boot_len (pa_cons (pv 1) pa_nil)) (pe_glob (v := .int 6) rfl T.cMOSTJARS ⟨_, rfl⟩))) (pss_one ps_never) pss_nil)
      (pss_cons (ps_for PassesOwn.never rfl (pi_list (pv 1)) (pg_name (i := 2) scJarsInit.nd rfl (by first | exact Or.inl rfl | exact Or.inr rfl)) (pss_one (ps_expr (pe_call (okcheckmuch T) (hr.mono (by decide)) rfl T.gcheckmuch T.fcheckmuch.kp T.bcheckmuch .nil pass0 (pa_cons pe_str (pa_cons (pv 2) pa_nil))))))
      (pss_one (ps_fld (pv 0) (pe_callTy call_tuple_of rfl T.ntuple (by decide +kernel) (pa_cons (pv 1) pa_nil)) rfl)))), ?_⟩
    refine ⟨_, rfl, a, _, rfl, .inl hS, 1, _, rfl, rfl, _, rfl, ifT (decide_eq_true (by rw [List.length_map]; omega)) ?_⟩
    refine ⟨_, _, rfl, rfl, _, rfl, iteNS (by rw [List.length_map]; omega) ?_⟩
    refine ⟨_, rfl, a, rfl, ⟨_, hS⟩, for_list (K := K) (a := a) (xs := vi caps) (fun i σ H' => ∃ v : Option V, σ = [some (.ref p), some (.ref a), v] ∧ H' = H) ⟨none, rfl, rfl⟩ (fun i σ H' _ ⟨_, _, e⟩ => by rw [e]; exact hS) ?_ ?_⟩
    · rintro i y σ H' hi ⟨v, rfl, rfl⟩
      obtain ⟨z, hz, rfl⟩ := vi_get hi
      have lt : i < caps.length := (List.getElem?_eq_some_iff.mp hz).1
      have ez := at0_of hz
      refine ⟨_, rfl, "size", z, rfl, ?_, ?_, some (.int z), rfl, rfl⟩
      · rw [← ez]; exact hC.lo i lt
      · rw [← ez]; exact hC.hi i lt
    · rintro σ H' ⟨v, rfl, rfl⟩
      refine ⟨_, rfl, a, _, rfl, .inl ⟨hS, fun t ht => ?_⟩⟩
      have n : p ≠ t := ne_of_none hp ht
      refine ⟨_, rfl, p, _, dx, _, rfl, (by rw [upd_ne n]; exact hp), T.lJars, T.nJars_sizes, (by show 0 < 1000; decide), ?_⟩
      refine hq _ ⟨dx, t, upd_same, by rw [upd_ne n.symm]; exact upd_same⟩ (fr_mut (fr_new (Fr.refl _ _) ht))
theorem okRowInit (T : Tx K mg) : FnOk P w K mg base CX0 3 T.aRowInit T.dRowInit ["self", "jars", "deeds"] (spRowInit T) := by
  refine T.fRowInit.ok scRowInit (fun vs H Q E h => ?_) (fun cdv A outer s H vs Q E hr h => ?_)
  · obtain ⟨p, dx, j, a, caps, us, ds, rfl, _⟩ := h
    rfl
  · obtain ⟨p, dx, j, a, caps, us, ds, rfl, hp, hJ, hS, hA, hl, ok, hq⟩ := h
    refine ⟨_, (pss_cons (ps_if (pt_cmpR op_gt (pe_callB call_len_seq rfl T.nlen PySem.boot_len (pa_cons (pv 2) pa_nil)) (pe_glob (v := .int 20) rfl T.cMOSTDEEDS ⟨_, rfl⟩) (nomark _)) (pss_one ps_never) pss_nil)
      (pss_cons (ps_for PassesOwn.never rfl (pi_list (pv 2)) (pg_name (i := 3) scRowInit.nd rfl (by first | exact Or.inl rfl | exact Or.inr rfl)) (pss_one (ps_expr (pe_call (okcheckdeed T) (hr.mono (by decide)) rfl T.gcheckdeed T.fcheckdeed.kp T.bcheckdeed .nil pass0 (pa_cons (pv 1) (pa_cons (pv 3) pa_nil))))))
      (pss_cons (ps_fld (pv 0) (pv 1) rfl)
      (pss_one (ps_fld (pv 0) (pe_callTy call_tuple_of rfl T.ntuple (by decide +kernel) (pa_cons (pv 2) pa_nil)) rfl))))), ?_⟩
    refine ⟨_, rfl, a, _, rfl, .inl (SqL.of hS), _, _, rfl, rfl, _, rfl, ifF (decide_eq_false (by rw [hA.len]; omega)) ?_⟩
    refine ⟨_, rfl, a, rfl, ⟨_, SqL.of hS⟩, for_list (K := K) (a := a) (xs := us) (fun i σ H' => ∃ v : Option V, σ = [some (.ref p), some (.ref j), some (.ref a), v] ∧ H' = H) ⟨none, rfl, rfl⟩ (fun i σ H' _ ⟨_, _, e⟩ => by rw [e]; exact SqL.of hS) ?_ ?_⟩
    · rintro i y σ H' hi ⟨v, rfl, rfl⟩
      obtain ⟨d, hd, hv⟩ := hA.get hi
      exact ⟨_, rfl, _, rfl, j, caps, y, d, rfl, hJ, hv, ok d (List.mem_of_getElem? hd), some y, rfl, rfl⟩
    · rintro σ H' ⟨v, rfl, rfl⟩
      refine ⟨_, rfl, _, rfl, p, _, dx, _, rfl, hp, T.lRow, T.nRow_jars, (by show 0 < 1000; decide), ?_⟩
      have f1 : Fr p H' (upd H' p (.ins T.cRow dx (putF "jars" (.ref j) []))) := fr_mut (Fr.refl _ _)
      have na : a ≠ p := ne_of hS hp (by intro z; cases z)
      refine ⟨_, rfl, a, _, rfl, .inl ⟨f1.sqL na (SqL.of hS), fun t ht => ?_⟩⟩
      have n : p ≠ t := fun z => by rw [← z, upd_same] at ht; cases ht
      have ht0 : H' t = none := fr_free f1 n.symm ht
      refine ⟨_, rfl, p, _, dx, _, rfl, (by rw [upd_ne n]; exact upd_same), T.lRow, T.nRow_deeds, (by show 1 < 1000; decide), ?_⟩
      have fr : Fr p H' (upd (upd (upd H' p (.ins T.cRow dx (putF "jars" (.ref j) []))) t (.tup us)) p (.ins T.cRow dx (putF "deeds" (.ref t) (putF "jars" (.ref j) [])))) := fr_mut (fr_new f1 ht0)
      refine hq _ ⟨dx, j, t, us, ?_, ?_, ?_, ?_⟩ fr
      · rw [upd_same, put2 (by decide +kernel)]
        rfl
      · exact hJ.fr fr hp bl_i
      · rw [upd_ne n.symm]; exact upd_same
      · exact A2.mono (fun _ _ q => q.fr fr hp bl_i) hA
end
end Kp

namespace Kp
open PySem PySem.Spec PyProof.Rows L2 KpR
section
variable {P : Program} {w : World} {K : PySem.W.Frag} {mg : Str → Option Value} {base : Heap}
def SqA (K : PySem.W.Frag) (H : Hp) (a : Addr) (xs : List V) : Prop := SqL K H a xs ∨ SqT K H a xs
theorem sameA {K : PySem.W.Frag} {H H' : Hp} {a : Addr} {xs : List V} (e : Same H H') (h : SqA K H a xs) : SqA K H' a xs := h.elim (fun h => .inl (e.seq h)) (fun h => .inr (sameT e h))
theorem rix_any {K : PySem.W.Frag} {H : Hp} {a : Addr} {xs : List V} {i : Int} {v : V} {Q : VK} (h : SqA K H a xs) (e : atI xs i = some v) (q : Q v H) : rIx K (.ref a) (.int i) H Q :=
  h.elim (fun h => .inl ⟨a, xs, i, v, rfl, rfl, h, e, q⟩) (fun h => .inr (.inl ⟨a, xs, i, v, rfl, rfl, h, e, q⟩))
theorem mulP {p : Int} (h1 : 1 ≤ p) (h2 : p < 2 ^ 62) : -(2 ^ 64) < p ∧ p < 2 ^ 64 := ⟨by omega, by omega⟩
theorem vi_set {l : List Int} {i : Nat} {z : Int} : (vi l).set i (.int z) = vi (l.set i z) := (List.map_set ..).symm
theorem ixN_nat {n i : Nat} (h : i < n) : ixN n (i : Int) = some i := by
  have e : atI (List.range n) (i : Int) = some i := atI_nat (by simp [h])
  unfold atI at e
  cases z : ixN (List.range n).length (i : Int) with
  | none => rw [z] at e; cases e
  | some j =>
    rw [z] at e
    have e2 : (List.range n)[j]? = some i := e
    have hj := (List.getElem?_eq_some_iff.mp e2).2
    rw [List.getElem_range] at hj
    subst hj
    simpa using z
theorem ixN_last {n : Nat} : ixN (n + 1) (-1) = some n := by
  have e : atI (List.range n ++ [n]) (-1) = some n := atI_last _ _
  unfold atI at e
  have hl : (List.range n ++ [n]).length = n + 1 := by simp
  rw [hl] at e
  cases z : ixN (n + 1) (-1) with
  | none => rw [z] at e; cases e
  | some j =>
    rw [z, ← List.range_succ] at e
    have e2 : (List.range (n + 1))[j]? = some n := e
    have hj := (List.getElem?_eq_some_iff.mp e2).2
    rw [List.getElem_range] at hj
    exact congrArg some hj
theorem okcheckstart (T : Tx K mg) : FnOk P w K mg base CX0 1 T.acheckstart T.dcheckstart ["jars", "start", "parts"] (spcheckstart T) := by
  refine T.fcheckstart.ok sccheckstart (fun vs H Q E h => ?_) (fun cdv A outer s H vs Q E hr h => ?_)
  · obtain ⟨j, a, caps, st, p, rfl, _⟩ := h
    rfl
  · obtain ⟨j, a, caps, st, p, rfl, hJ, hS, p1, p2, hst, hq⟩ := h
    refine ⟨_, (pss_cons (ps_if (pt_cmpR op_lt (pv 2) pe_int (nomark _)) (pss_one ps_never) pss_nil)
      (pss_cons (ps_if (pt_cmpR op_ne (pe_callB call_len_seq rfl T.nlen PySem.boot_len (pa_cons (pv 1) pa_nil)) (pe_callB call_len_seq rfl T.nlen PySem.boot_len (pa_cons (pe_fld (pv 0) rfl) pa_nil)) (nomark _)) (pss_one ps_never) pss_nil)
      (pss_one (ps_for PassesOwn.never rfl (pi_enumT rfl T.nenumerate (pa_cons (pe_fld (pv 0) rfl) pa_nil)) (pg_tup rfl (pgs_cons (pg_name (i := 3) sccheckstart.nd rfl (by first | exact Or.inl rfl | exact Or.inr rfl)) (pgs_cons (pg_name (i := 4) sccheckstart.nd rfl (by first | exact Or.inl rfl | exact Or.inr rfl)) pgs_nil))) (pss_one (ps_if (pt_not (pt_chain op_le op_le pe_int (pe_ix (r := rIx K) ix_seq (pv 1) (pv 3) (fun _ _ => rfl)) (pe_op op_mul (pv 4) (pv 2)))) (pss_one ps_never) pss_nil)))))), ?_⟩
    obtain ⟨jx, t, e1, e2⟩ := hJ
    refine ⟨_, rfl, _, _, rfl, rfl, _, rfl, ifF (decide_eq_false (by omega)) ?_⟩
    refine ⟨_, rfl, a, _, rfl, hS, _, rfl, j, _, jx, _, _, rfl, e1, T.lJars, T.nJars_sizes, lk1, t, _, rfl, .inr (SqT.of e2), rfl, _, rfl, iteNS (by rw [List.length_map, List.length_map, hst.len]) ?_⟩
    refine ⟨_, rfl, j, _, jx, _, _, rfl, e1, T.lJars, T.nJars_sizes, lk1, t, _, rfl, SqT.of e2, ?_⟩
    refine for_enumT (K := K) (a := t) (xs := vi caps) (fun i σ H' => ∃ u v : Option V, σ = [some (.ref j), some (.ref a), some (.int p), u, v] ∧ Same H H') ⟨none, none, rfl, Same.refl _⟩ (fun i σ H' _ ⟨_, _, _, e⟩ => sameT e (SqT.of e2)) ?_ ?_
    · rintro i y N σ H' hi ⟨u, v, rfl, sm⟩ hN
      obtain ⟨z, hz, rfl⟩ := vi_get hi
      have lt : i < caps.length := (List.getElem?_eq_some_iff.mp hz).1
      have ez := at0_of hz
      have s2 : Same H (upd H' N (.tup [.int (i : Nat), .int z])) := sm.trans (same_new hN)
      refine ⟨N, _, rfl, SqT.of upd_same, rfl, _, _, rfl, _, _, rfl, rfl, ?_⟩
      have l2 : i < st.length := by rw [hst.len]; exact lt
      refine ⟨_, rfl, _, rfl, rix_any (sameA s2 hS) (vi_at l2) ⟨_, _, rfl, rfl, _, rfl, ifT (decide_eq_true (hst.lo i lt)) ?_⟩⟩
      refine ⟨_, rfl, _, rfl, _, _, rfl, rfl, .inr (mulP p1 p2), _, _, rfl, rfl, _, rfl, iteNS (by rw [← ez]; exact hst.hi i lt) ?_⟩
      exact ⟨_, _, rfl, s2⟩
    · rintro σ H' ⟨u, v, rfl, sm⟩
      exact hq _ sm
theorem okbehinddeed (T : Tx K mg) : FnOk P w K mg base CX0 1 T.abehinddeed T.dbehinddeed ["jars", "deed", "stand", "parts"] (spbehinddeed T) := by
  refine T.fbehinddeed.ok scbehinddeed (fun vs H Q E h => ?_) (fun cdv A outer s H vs Q E hr h => ?_)
  · obtain ⟨j, a, v, d, caps, st, p, rfl, _⟩ := h
    rfl
  · obtain ⟨j, a, v, d, caps, st, p, rfl, hJ, hD, ok, hS, p1, p2, hl, hq⟩ := h
    refine ⟨_, (pss_cons (ps_set (i := 4) scbehinddeed.nd rfl (by first | exact Or.inl rfl | exact Or.inr rfl) (pe_callTy call_list_of rfl T.nlist (by decide +kernel) (pa_cons (pv 2) pa_nil)))
      (pss_cons (ps_set (i := 5) scbehinddeed.nd rfl (by first | exact Or.inl rfl | exact Or.inr rfl) (pe_fld (pv 1) rfl))
      (pss_cons (ps_if (pt_val (pe_callB call_isi rfl T.nisinstance (by decide +kernel) (pa_cons (pv 1) (pa_cons (pe_glob (v := .ref T.cPut) rfl T.mPut rfl) pa_nil)))) (pss_cons (ps_asg (pe_callB (call_min2 rfl) rfl T.nmin (by decide +kernel) (pa_cons (pe_op op_add (pe_ix (r := rIxL K) ix_list (pv 2) (pv 5) (fun _ _ => rfl)) (pe_op op_mul (pe_fld (pv 1) rfl) (pv 3))) (pa_cons (pe_op op_mul (pe_ix (r := rIxT K) ix_tup (pe_fld (pv 0) rfl) (pv 5) (fun _ _ => rfl)) (pv 3)) pa_nil))) (pg_sub (pv 4) (pv 5) set_list))
      (pss_one (ps_ret (pv 4)))) pss_nil)
      (pss_cons (ps_if (pt_val (pe_callB call_isi rfl T.nisinstance (by decide +kernel) (pa_cons (pv 1) (pa_cons (pe_glob (v := .ref T.cDraw) rfl T.mDraw rfl) pa_nil)))) (pss_cons (ps_asg (pe_callB (call_max2 rfl) rfl T.nmax (by decide +kernel) (pa_cons (pe_op op_sub (pe_ix (r := rIxL K) ix_list (pv 2) (pv 5) (fun _ _ => rfl)) (pe_op op_mul (pe_fld (pv 1) rfl) (pv 3))) (pa_cons pe_int pa_nil))) (pg_sub (pv 4) (pv 5) set_list))
      (pss_one (ps_ret (pv 4)))) pss_nil)
      (pss_cons (ps_set (i := 6) scbehinddeed.nd rfl (by first | exact Or.inl rfl | exact Or.inr rfl) (pe_fld (pv 1) rfl))
      (pss_cons (ps_if (pt_val (pe_callB call_isi rfl T.nisinstance (by decide +kernel) (pa_cons (pv 1) (pa_cons (pe_glob (v := .ref T.cPour) rfl T.mPour rfl) pa_nil)))) (pss_cons (ps_set (i := 7) scbehinddeed.nd rfl (by first | exact Or.inl rfl | exact Or.inr rfl) (pe_callB (call_min2 rfl) rfl T.nmin (by decide +kernel) (pa_cons (pe_ix (r := rIxL K) ix_list (pv 2) (pv 5) (fun _ _ => rfl)) (pa_cons (pe_op op_sub (pe_op op_mul (pe_ix (r := rIxT K) ix_tup (pe_fld (pv 0) rfl) (pv 6) (fun _ _ => rfl)) (pv 3)) (pe_ix (r := rIxL K) ix_list (pv 2) (pv 6) (fun _ _ => rfl))) pa_nil))))
      (pss_cons (ps_asg (pe_op op_sub (pe_ix (r := rIxL K) ix_list (pv 2) (pv 5) (fun _ _ => rfl)) (pv 7)) (pg_sub (pv 4) (pv 5) set_list))
      (pss_cons (ps_asg (pe_op op_add (pe_ix (r := rIxL K) ix_list (pv 2) (pv 6) (fun _ _ => rfl)) (pv 7)) (pg_sub (pv 4) (pv 6) set_list))
      (pss_one (ps_ret (pv 4)))))) pss_nil)
      (pss_cons (ps_asg (pe_ix (r := rIxL K) ix_list (pv 2) (pv 6) (fun _ _ => rfl)) (pg_sub (pv 4) (pv 5) set_list))
      (pss_cons (ps_asg (pe_ix (r := rIxL K) ix_list (pv 2) (pv 5) (fun _ _ => rfl)) (pg_sub (pv 4) (pv 6) set_list))
      (pss_one (ps_ret (pv 4))))))))))), ?_⟩
    obtain ⟨q, dx, rfl, hp⟩ := deed_at hD
    have ha : d.fst < caps.length := by cases d <;> exact ok.1
    refine ⟨_, rfl, a, _, rfl, .inl hS, fun l hn => ?_⟩
    have s1 : Same H (upd H l (.lst (vi st))) := same_new hn
    have hp1 := s1 _ _ hp
    have hS1 := s1.seq hS
    obtain ⟨jx, t, e1, e2⟩ := hJ.same s1
    have ty := ty_deed hp1
    refine ⟨_, rfl, q, _, dx, _, _, rfl, hp1, cls_cls T d, no_a T d, fs_a d, ?_⟩
    refine ⟨_, rfl, .ref q, .ref T.cPut, _, _, _, rfl, .own _, ty, is_put T d, _, rfl, ?_⟩
    have l2 : d.fst < st.length := by rw [hl]; exact ha
    cases d with
    | put x k =>
      refine ifT rfl ?_
      refine ⟨_, rfl, _, rfl, a, _, _, _, rfl, rfl, hS1, vi_at l2, _, rfl, q, _, dx, _, _, rfl, hp1, T.lPut, T.nPut_k, lk2 (by decide +kernel), _, rfl, _, _, rfl, rfl, .inr (mulP p1 p2), _, _, rfl, rfl, ?_⟩
      refine ⟨_, rfl, j, _, jx, _, _, rfl, e1, T.lJars, T.nJars_sizes, lk1, _, rfl, t, _, _, _, rfl, rfl, SqT.of e2, vi_at ha, _, rfl, _, _, rfl, rfl, .inr (mulP p1 p2), _, _, rfl, ?_⟩
      refine ⟨_, rfl, _, rfl, l, _, _, x, rfl, rfl, upd_same, ixN_nat (by rw [List.length_map]; exact l2), _, rfl, ?_⟩
      refine hq _ l hn ?_ (same_mut s1 hn)
      rw [upd_same, vi_set]
      rfl
    | draw x k =>
      refine ifF rfl ⟨_, rfl, .ref q, .ref T.cDraw, _, _, _, rfl, .own _, ty, T.iDraw_Draw, _, rfl, ifT rfl ?_⟩
      refine ⟨_, rfl, _, rfl, a, _, _, _, rfl, rfl, hS1, vi_at l2, _, rfl, q, _, dx, _, _, rfl, hp1, T.lDraw, T.nDraw_k, lk2 (by decide +kernel), _, rfl, _, _, rfl, rfl, .inr (mulP p1 p2), _, _, rfl, rfl, ?_⟩
      refine ⟨_, _, rfl, ?_⟩
      refine ⟨_, rfl, _, rfl, l, _, _, x, rfl, rfl, upd_same, ixN_nat (by rw [List.length_map]; exact l2), _, rfl, ?_⟩
      refine hq _ l hn ?_ (same_mut s1 hn)
      rw [upd_same, vi_set]
      rfl
    | pour x b =>
      have lb : b < st.length := by rw [hl]; exact ok.2.1
      refine ifF rfl ⟨_, rfl, .ref q, .ref T.cDraw, _, _, _, rfl, .own _, ty, T.iPour_Draw, _, rfl, ifF rfl ?_⟩
      refine ⟨_, rfl, q, _, dx, _, _, rfl, hp1, T.lPour, T.nPour_b, lk2 (by decide +kernel), ?_⟩
      refine ⟨_, rfl, .ref q, .ref T.cPour, _, _, _, rfl, .own _, ty, T.iPour_Pour, _, rfl, ifT rfl ?_⟩
      refine ⟨_, rfl, _, rfl, a, _, _, _, rfl, rfl, hS1, vi_at l2, _, rfl, j, _, jx, _, _, rfl, e1, T.lJars, T.nJars_sizes, lk1, ?_⟩
      refine ⟨_, rfl, t, _, _, _, rfl, rfl, SqT.of e2, vi_at ok.2.1, _, rfl, _, _, rfl, rfl, .inr (mulP p1 p2), _, rfl, _, rfl, a, _, _, _, rfl, rfl, hS1, vi_at lb, _, _, rfl, rfl, _, _, rfl, ?_⟩
      refine ⟨_, rfl, _, rfl, a, _, _, _, rfl, rfl, hS1, vi_at l2, _, rfl, _, _, rfl, rfl, _, rfl, _, rfl, l, _, _, x, rfl, rfl, upd_same, ixN_nat (by rw [List.length_map]; exact l2), ?_⟩
      have hS2 := (same_mut (o := .lst ((vi st).set x (.int (at0 st x - (if at0 caps b * p - at0 st b < at0 st x then at0 caps b * p - at0 st b else at0 st x))))) s1 hn).seq hS
      refine ⟨_, rfl, _, rfl, a, _, _, _, rfl, rfl, hS2, vi_at lb, _, rfl, _, _, rfl, rfl, _, rfl, _, rfl, l, _, _, b, rfl, rfl, upd_same, ixN_nat (by rw [List.length_set, List.length_map]; exact lb), _, rfl, ?_⟩
      refine hq _ l hn ?_ (same_mut (same_mut s1 hn) hn)
      rw [upd_same, vi_set, vi_set]
      rfl
    | change x b =>
      have lb : b < st.length := by rw [hl]; exact ok.2.1
      refine ifF rfl ⟨_, rfl, .ref q, .ref T.cDraw, _, _, _, rfl, .own _, ty, T.iChange_Draw, _, rfl, ifF rfl ?_⟩
      refine ⟨_, rfl, q, _, dx, _, _, rfl, hp1, T.lChange, T.nChange_b, lk2 (by decide +kernel), ?_⟩
      refine ⟨_, rfl, .ref q, .ref T.cPour, _, _, _, rfl, .own _, ty, T.iChange_Pour, _, rfl, ifF rfl ?_⟩
      refine ⟨_, rfl, _, rfl, a, _, _, _, rfl, rfl, hS1, vi_at lb, _, rfl, _, rfl, l, _, _, x, rfl, rfl, upd_same, ixN_nat (by rw [List.length_map]; exact l2), ?_⟩
      have hS2 := (same_mut (o := .lst ((vi st).set x (.int (at0 st b)))) s1 hn).seq hS
      refine ⟨_, rfl, _, rfl, a, _, _, _, rfl, rfl, hS2, vi_at l2, _, rfl, _, rfl, l, _, _, b, rfl, rfl, upd_same, ixN_nat (by rw [List.length_set, List.length_map]; exact lb), _, rfl, ?_⟩
      refine hq _ l hn ?_ (same_mut (same_mut s1 hn) hn)
      rw [upd_same, vi_set, vi_set]
      rfl
theorem okbehindround (T : Tx K mg) : FnOk P w K mg base CX0 2 T.abehindround T.dbehindround ["row", "stand", "parts"] (spbehindround T) := by
  refine T.fbehindround.ok scbehindround (fun vs H Q E h => ?_) (fun cdv A outer s H vs Q E hr h => ?_)
  · obtain ⟨r, a, ds, caps, st, p, rfl, _⟩ := h
    rfl
  · obtain ⟨r, a, ds, caps, st, p, rfl, hR, ok, hS, p1, p2, hl, hq⟩ := h
    refine ⟨_, (pss_cons (ps_set (i := 3) scbehindround.nd rfl (by first | exact Or.inl rfl | exact Or.inr rfl) (pe_callTy call_list_of rfl T.nlist (by decide +kernel) (pa_cons (pv 1) pa_nil)))
      (pss_cons (ps_for PassesOwn.never rfl (pi_tup (pe_fld (pv 0) rfl)) (pg_name (i := 4) scbehindround.nd rfl (by first | exact Or.inl rfl | exact Or.inr rfl)) (pss_one (ps_set (i := 3) scbehindround.nd rfl (by first | exact Or.inl rfl | exact Or.inr rfl) (pe_call (okbehinddeed T) (hr.mono (by decide)) rfl T.gbehinddeed T.fbehinddeed.kp T.bbehinddeed .nil pass0 (pa_cons (pe_fld (pv 0) rfl) (pa_cons (pv 4) (pa_cons (pv 3) (pa_cons (pv 2) pa_nil))))))))
      (pss_one (ps_ret (pv 3))))), ?_⟩
    refine ⟨_, rfl, a, _, rfl, .inl hS, fun l hn => ?_⟩
    have s1 : Same H (upd H l (.lst (vi st))) := same_new hn
    obtain ⟨rx, j, t, us, r1, r2, r3, r4⟩ := id hR
    refine ⟨_, rfl, r, _, rx, _, _, rfl, s1 _ _ r1, T.lRow, T.nRow_deeds, lk2 (by decide +kernel), t, rfl, ⟨_, SqT.of (s1 _ _ r3)⟩, ?_⟩
    refine for_tup (K := K) (a := t) (xs := us) (fun i σ H' => ∃ (m : Addr) (v : Option V), σ = [some (.ref r), some (.ref a), some (.int p), some (.ref m), v] ∧ H m = none ∧ H' m = some (.lst (vi (run caps p (ds.take i) st))) ∧ Same H H')
      ⟨l, none, rfl, hn, by rw [upd_same]; rfl, s1⟩ (fun i σ H' _ ⟨_, _, _, _, _, e⟩ => sameT e (SqT.of r3)) ?_ ?_
    · rintro i y σ H' hi ⟨m, v, rfl, hm, hm', sm⟩
      obtain ⟨d, hd, hv⟩ := r4.get hi
      refine ⟨_, rfl, r, _, rx, _, _, rfl, sm _ _ r1, T.lRow, T.nRow_jars, lk1, _, rfl, _, rfl, _, rfl, ?_⟩
      refine ⟨j, m, y, d, caps, _, p, rfl, r2.same sm, hv.same sm, ok d (List.mem_of_getElem? hd), SqL.of hm', p1, p2, ?_, fun H2 q q1 q2 s2 => ?_⟩
      · rw [run_len]
        exact hl
      · refine ⟨q, some y, rfl, sm.free q1, ?_, sm.trans s2⟩
        rw [q2, run_snoc hd]
    · rintro σ H' ⟨m, v, rfl, hm, hm', sm⟩
      refine ⟨_, rfl, hq _ m hm ?_ sm⟩
      rw [hm', r4.len, List.take_length]
theorem okbehind (T : Tx K mg) : FnOk P w K mg base CX0 3 T.abehind T.dbehind ["row", "start", "parts", "times"] (spbehind T) := by
  refine T.fbehind.ok scbehind (fun vs H Q E h => ?_) (fun cdv A outer s H vs Q E hr h => ?_)
  · obtain ⟨r, a, ds, caps, st, p, n, rfl, _⟩ := h
    rfl
  · obtain ⟨r, a, ds, caps, st, p, n, rfl, hR, ok, hS, p1, p2, n1, hst, hq⟩ := h
    refine ⟨_, PSs.nox (pss_cons (ps_expr (pe_call (okcheckstart T) (hr.mono (by decide)) rfl T.gcheckstart T.fcheckstart.kp T.bcheckstart .nil pass0 (pa_cons (pe_fld (pv 0) rfl) (pa_cons (pv 1) (pa_cons (pv 2) pa_nil)))))
      (pss_cons (ps_if (pt_not (pt_chain op_le op_le pe_int (pv 3) (pe_glob (v := .int 1000) rfl T.cMOSTTIMES ⟨_, rfl⟩))) (pss_one ps_never) pss_nil)
      (pss_cons (ps_set (i := 4) scbehind.nd rfl (by first | exact Or.inl rfl | exact Or.inr rfl) (pe_callTy call_list_of rfl T.nlist (by decide +kernel) (pa_cons (pv 1) pa_nil)))
      (pss_cons (ps_for PassesOwn.never rfl (pi_range1 rfl T.nrange (pa_cons (pv 3) pa_nil)) (pg_name (i := 5) scbehind.nd rfl (by first | exact Or.inl rfl | exact Or.inr rfl)) (pss_one (ps_set (i := 4) scbehind.nd rfl (by first | exact Or.inl rfl | exact Or.inr rfl) (pe_call (okbehindround T) (hr.mono (by decide)) rfl T.gbehindround T.fbehindround.kp T.bbehindround .nil pass0 (pa_cons (pv 0) (pa_cons (pv 4) (pa_cons (pv 2) pa_nil)))))))
      (pss_one (ps_ret (pv 4))))))), ?_⟩
    obtain ⟨rx, j, t, us, r1, r2, r3, r4⟩ := id hR
    refine ⟨_, rfl, r, _, rx, _, _, rfl, r1, T.lRow, T.nRow_jars, lk1, _, rfl, _, rfl, j, a, caps, st, p, rfl, r2, hS, p1, p2, hst, fun H1 s1 => ?_⟩
    refine ⟨_, rfl, _, _, rfl, rfl, _, rfl, ifT (decide_eq_true (by omega)) ?_⟩
    refine ⟨_, _, rfl, rfl, _, rfl, iteNS (by omega) ?_⟩
    refine ⟨_, rfl, a, _, rfl, sameA s1 hS, fun l hn => ?_⟩
    have s2 : Same H (upd H1 l (.lst (vi st))) := s1.trans (same_new hn)
    refine ⟨_, rfl, n, rfl, by omega, by omega, ?_⟩
    refine for_range (lo := 0) (n := (n : Int).toNat) (fun i σ H' => ∃ (m : Addr) (v : Option V), σ = [some (.ref r), some (.ref a), some (.int p), some (.int n), some (.ref m), v] ∧ H m = none ∧ H' m = some (.lst (vi (runs caps p ds i st))) ∧ Same H H')
      ⟨l, none, rfl, s1.free hn, by rw [upd_same]; rfl, s2⟩ ?_ ?_
    · rintro i σ H' hi ⟨m, v, rfl, hm, hm', sm⟩
      refine ⟨_, rfl, _, rfl, _, rfl, r, m, ds, caps, _, p, rfl, hR.same sm, ok, SqL.of hm', p1, p2, (runs_stand p1 ok hst).len, fun H2 q q1 q2 s3 => ?_⟩
      exact ⟨q, _, rfl, sm.free q1, q2, sm.trans s3⟩
    · rintro σ H' ⟨m, v, rfl, hm, hm', sm⟩
      refine ⟨_, rfl, hq _ m hm ?_ sm⟩
      rw [hm', Int.toNat_natCast]
end
end Kp

namespace Kp
open PySem PySem.Spec PyProof.Rows L2 KpR
/-! ### lists of ints compared; slices -/
def pdI (l : List Int) : List PyData := l.map PyData.int
section
variable {K : PySem.W.Frag} {H : Hp}
theorem dpI : ∀ l : List Int, DpAll K H (vi l) (pdI l)
  | [] => .nil
  | i :: l => .cons (.int i) (dpI l)
theorem lay_i : ∀ l : List Int, PyData.canLayAll0 (pdI l) = true
  | [] => by simp [pdI, PyData.canLayAll0]
  | i :: l => by
    have := lay_i l
    simp only [pdI, List.map_cons, PyData.canLayAll0, PyData.canLay0, Bool.true_and]
    exact this
theorem dep_i : ∀ l : List Int, PyData.depthAll (pdI l) = 0
  | [] => by simp [pdI, PyData.depthAll]
  | i :: l => by
    have := dep_i l
    simp only [pdI, List.map_cons, PyData.depthAll, PyData.depth]
    rw [show PyData.depthAll (List.map PyData.int l) = 0 from this]
    rfl
theorem shape_i (l : List Int) : SeqAt.shaped (.list (pdI l)) = true := by
  unfold SeqAt.shaped
  simp only [PyData.canLay0, PyData.depth, lay_i, dep_i]
  rfl
theorem eqv_i : ∀ l m : List Int, PyData.eqvAll (pdI l) (pdI m) = decide (l = m)
  | [], [] => by simp [pdI, PyData.eqvAll]
  | [], _ :: _ => by simp [pdI, PyData.eqvAll]
  | _ :: _, [] => by simp [pdI, PyData.eqvAll]
  | i :: l, j :: m => by
    have := eqv_i l m
    simp only [pdI, List.map_cons, PyData.eqvAll, PyData.eqv]
    rw [show PyData.eqvAll (List.map PyData.int l) (List.map PyData.int m) = decide (l = m) from this]
    by_cases h1 : i = j
    · by_cases h2 : l = m <;> simp [h1, h2]
    · simp [h1]
theorem ne_ints {a b : Addr} {l m : List Int} {Q : VK} (h1 : SqL K H a (vi l)) (h2 : SqL K H b (vi m)) (e : l = m) (q : Q (.bl false) H) : rNeD K (.ref a) (.ref b) H Q := by
  refine ⟨_, _, .lst h1 (dpI l), .lst h2 (dpI m), shape_i l, shape_i m, ?_⟩
  have z : PyData.eqv (.list (pdI l)) (.list (pdI m)) = true := by
    simp only [PyData.eqv, eqv_i]
    exact decide_eq_true e
  rw [z]
  exact q
theorem eq_ints {a b : Addr} {l m : List Int} {Q : VK} (h1 : SqL K H a (vi l)) (h2 : SqL K H b (vi m)) (q : Q (.bl (decide (l = m))) H) : rEqD K (.ref a) (.ref b) H Q := by
  refine ⟨_, _, .lst h1 (dpI l), .lst h2 (dpI m), shape_i l, shape_i m, ?_⟩
  have z : PyData.eqv (.list (pdI l)) (.list (pdI m)) = decide (l = m) := by simp only [PyData.eqv, eqv_i]
  rw [z]
  exact q
end
theorem cut_take {xs : List V} {n : Nat} : cutV xs none (some (n : Int)) = xs.take n := by
  unfold cutV
  rw [HT.sIx_nat, HT.sIx_none, List.drop_zero, Nat.sub_zero]
  by_cases h : n ≤ xs.length
  · rw [Nat.min_eq_left h]
  · rw [Nat.min_eq_right (by omega), List.take_length, List.take_of_length_le (by omega)]
theorem cut_drop {xs : List V} {n : Nat} (h : n ≤ xs.length) : cutV xs (some (n : Int)) none = xs.drop n := by
  unfold cutV
  rw [HT.sIx_nat, HT.sIx_none, Nat.min_eq_left h]
  exact List.take_of_length_le (by rw [List.length_drop]; omega)
section
variable {K : PySem.W.Frag} {mg : Str → Option Value}
/-- behind's keywords -/
theorem kbParts (T : Tx K mg) : ∃ mv : List Value, KBn K T.dbehind ["row", "start", "parts", "times"] 2 ["parts"] (fun us ws => us ++ (ws ++ mv)) (fun vs zs => vs ++ (zs ++ [.int 1])) :=
  T.fbehind.kbinds0 2 ["parts"] [("times", .int 1)] (fun vs mz zs => vs ++ (zs ++ mz)) (by simp) (by simp) (fun r1 r2 r3 => r1.append (r3.append r2))
    (fun Dd doc pm an cdv ct us mv ws h1 h2 h3 => match us, mv, ws, h1, h2, h3 with
      | [_, _], [_], [_], _, _, _ => ⟨_, _, _, _, _, _, rfl, rfl, rfl⟩)
theorem kbTimes (T : Tx K mg) : ∃ mv : List Value, KBn K T.dbehind ["row", "start", "parts", "times"] 2 ["times"] (fun us ws => us ++ (mv ++ ws)) (fun vs zs => vs ++ ([.int 1] ++ zs)) :=
  T.fbehind.kbinds0 2 ["times"] [("parts", .int 1)] (fun vs mz zs => vs ++ (mz ++ zs)) (by simp) (by simp) (fun r1 r2 r3 => r1.append (r2.append r3))
    (fun Dd doc pm an cdv ct us mv ws h1 h2 h3 => match us, mv, ws, h1, h2, h3 with
      | [_, _], [_], [_], _, _, _ => ⟨_, _, _, _, _, _, rfl, rfl, rfl⟩)
theorem kbBoth (T : Tx K mg) : ∃ mv : List Value, KBn K T.dbehind ["row", "start", "parts", "times"] 2 ["parts", "times"] (fun us ws => us ++ ws) (fun vs zs => vs ++ zs) :=
  T.fbehind.kbinds0 2 ["parts", "times"] [] (fun vs mz zs => vs ++ zs) (by simp) (by simp) (fun r1 r2 r3 => r1.append r3)
    (fun Dd doc pm an cdv ct us mv ws h1 h2 h3 => match us, mv, ws, h1, h2, h3 with
      | [_, _], [], [_, _], _, _, _ => rfl)
end
section
variable {K : PySem.W.Frag} {H : Hp}
/-- a written list of ints, one of which is drawn -/
theorem pickL {l : Addr} {xs : List Int} {n : Nat} {Q : VK} (h : SqL K H l (vi xs)) (hn : n < xs.length) (q : Q (.int (at0 xs n)) H) : rIxL K (.ref l) (.int n) H Q := ⟨l, _, _, _, rfl, rfl, h, vi_at hn, q⟩
end
end Kp

namespace Kp
open PySem PySem.Spec PyProof.Rows L2 KpR
def D.word : D → Str
  | .pour _ _ => "pour"
  | .put _ _ => "put"
  | .draw _ _ => "draw"
  | .change _ _ => "change"
def D.last : D → Int
  | .pour _ b => b
  | .put _ k => k
  | .draw _ k => k
  | .change _ b => b
def FactAt (H : Hp) (v : V) (d : D) : Prop := ∃ t, v = .ref t ∧ H t = some (.tup [.str d.word, .int d.fst, .int d.last])
theorem FactAt.same {H H' : Hp} {v : V} {d : D} (e : Same H H') (h : FactAt H v d) : FactAt H' v d := by
  obtain ⟨t, rfl, h⟩ := h
  exact ⟨t, rfl, e _ _ h⟩
theorem FactAt.fr {w : Addr} {H H' : Hp} {u : HO} {v : V} {d : D} (e : Fr w H H') (hw : H w = some u) (hb : Blank u) (h : FactAt H v d) : FactAt H' v d := by
  obtain ⟨t, rfl, h⟩ := h
  exact ⟨t, rfl, fr_no e hw hb h nbT⟩
theorem made_same {H H' : Hp} {x dx : Addr} {o1 o2 : HO} (hx : H x = none) (hdx : H dx = none) (fr : Fr x (upd (upd H dx o1) x o2) H') : Same H H' := fun b o e => by
  have n1 := ne_of_none e hx
  have n2 := ne_of_none e hdx
  exact fr b o n1 (by rw [upd_ne n1, upd_ne n2]; exact e)
theorem one01 (c : Bool) : -2 ^ 64 < (if c = true then (1 : Int) else 0) ∧ (if c = true then (1 : Int) else 0) < 2 ^ 64 := by
  cases c <;> decide
def StateAt (H : Hp) (s : Addr) : Prop := ∃ x y z : Int, H s = some (.lst [.int x, .int y, .int z]) ∧ 0 ≤ y ∧ y ≤ 4294967296
theorem StateAt.ex {H : Hp} {s : Addr} (h : StateAt H s) : ∃ u, H s = some u ∧ Blank u := by
  obtain ⟨a, b, c, q, _⟩ := h
  exact ⟨_, q, bl_l⟩
theorem StateAt.new {H : Hp} {w p : Addr} {o : HO} (h : StateAt H w) (n : H p = none) : StateAt (upd H p o) w := by
  obtain ⟨a, b, c, q, r⟩ := h
  exact ⟨a, b, c, (same_new n) _ _ q, r⟩
theorem StateAt.ne {H : Hp} {w p : Addr} (h : StateAt H w) (n : H p = none) : p ≠ w := fun z => by
  obtain ⟨a, b, c, q, r⟩ := h
  rw [← z, n] at q
  cases q
theorem StateAt.mut {H : Hp} {w p : Addr} {o : HO} (h : StateAt H w) (n : p ≠ w) : StateAt (upd H p o) w := by
  obtain ⟨a, b, c, q, r⟩ := h
  exact ⟨a, b, c, by rw [upd_ne n.symm]; exact q, r⟩
theorem StateAt.same {H H' : Hp} {w : Addr} (h : StateAt H w) (e : Same H H') : StateAt H' w := by
  obtain ⟨a, b, c, q, r⟩ := h
  exact ⟨a, b, c, e _ _ q, r⟩
section
variable {K : PySem.W.Frag} {mg : Str → Option Value}
def spLstate (T : Tx K mg) : Sp := fun vs H Q _ => ∃ n : Int, vs = [.int n] ∧ ∀ (H' : Hp) (p : Addr), H p = none → StateAt H' p → Same H H' → Q (.ref p) H'
def spLdigit (T : Tx K mg) : Sp := fun vs H Q _ => ∃ (s : Addr) (m : Int), vs = [.ref s, .int m] ∧ StateAt H s ∧ 1 ≤ m ∧ m < 2 ^ 100 ∧ ∀ (H' : Hp) (v : Nat), (v : Int) < m → StateAt H' s → Fr s H H' → Q (.int v) H'
end
section
variable {P : Program} {w : World} {K : PySem.W.Frag} {mg : Str → Option Value} {base : Heap}
theorem okLstate (T : Tx K mg) : FnOk P w K mg base CX0 1 T.aLstate T.dLstate ["_law_source"] (spLstate T) := by
  refine T.fLstate.ok scLstate (fun vs H Q E h => ?_) (fun cdv A outer s H vs Q E hr h => ?_)
  · obtain ⟨n, rfl, _⟩ := h
    rfl
  · obtain ⟨n, rfl, hq⟩ := h
    refine ⟨_, (pss_cons (ps_set (i := 0) scLstate.nd rfl (by first | exact Or.inl rfl | exact Or.inr rfl) (pe_callB call_abs rfl T.nabs (by decide +kernel) (pa_cons (pv 0) pa_nil)))
      (pss_one (ps_ret (pe_lst (pa_cons (pe_op op_mul (pv 0) (pe_callTy call_int1 rfl T.nint (by decide +kernel) (pa_cons (pe_cmpR op_ge (pv 0) (pe_op op_pow pe_int pe_int) (nomark _)) pa_nil))) (pa_cons (pe_op op_add (pe_op op_mod (pv 0) pe_int) pe_int) (pa_cons (pe_op op_mod (pv 0) pe_int) pa_nil))))))), ?_⟩
    refine ⟨_, rfl, n, rfl, ?_⟩
    refine ⟨_, rfl, _, rfl, _, _, rfl, rfl, ⟨by decide, by decide, by decide⟩, _, _, rfl, rfl, .inr ⟨_, rfl, _, _, rfl, rfl, .inr (one01 _), ?_⟩⟩
    refine ⟨_, rfl, _, _, rfl, rfl, (by show (0 : Int) < 2147483629; decide), _, _, rfl, rfl, _, rfl, _, _, rfl, rfl, (by show (0 : Int) < 2147483587; decide), (by show 3 ≤ sizeLine; decide), fun p hp => ?_⟩
    refine hq _ p hp ⟨_, _, _, upd_same, ?_, ?_⟩ (same_new hp)
    · have := Int.emod_nonneg (if n < 0 then -n else n) (show (2147483629 : Int) ≠ 0 by decide)
      omega
    · have := Int.emod_lt_of_pos (if n < 0 then -n else n) (show (0 : Int) < 2147483629 by decide)
      omega
theorem okLdigit (T : Tx K mg) : FnOk P w K mg base CX0 1 T.aLdigit T.dLdigit ["_law_state_here", "_law_base"] (spLdigit T) := by
  refine T.fLdigit.ok scLdigit (fun vs H Q E h => ?_) (fun cdv A outer s H vs Q E hr h => ?_)
  · obtain ⟨u, m, rfl, _⟩ := h
    rfl
  · obtain ⟨u, m, rfl, ⟨a, b, c, hw, b0, b1⟩, m1, m2, hq⟩ := h
    refine ⟨_, (pss_cons (ps_if (pt_cmpR op_gt (pe_ix (r := rIxL K) ix_list (pv 0) pe_int (fun _ _ => rfl)) pe_int (nomark _)) (pss_cons (ps_set (i := 2) scLdigit.nd rfl (by first | exact Or.inl rfl | exact Or.inr rfl) (pe_op op_mod (pe_ix (r := rIxL K) ix_list (pv 0) pe_int (fun _ _ => rfl)) (pv 1)))
      (pss_cons (ps_asg (pe_op op_fdivW (pe_ix (r := rIxL K) ix_list (pv 0) pe_int (fun _ _ => rfl)) (pv 1)) (pg_sub (pv 0) pe_int set_list))
      (pss_one (ps_ret (pv 2))))) pss_nil)
      (pss_cons (ps_set (i := 3) scLdigit.nd rfl (by first | exact Or.inl rfl | exact Or.inr rfl) (pe_op op_mul (pe_ix (r := rIxL K) ix_list (pv 0) pe_int (fun _ _ => rfl)) (pe_op op_add (pe_op op_fdivW (pe_ix (r := rIxL K) ix_list (pv 0) pe_int (fun _ _ => rfl)) pe_int) pe_int)))
      (pss_cons (ps_asg (pe_op op_add (pe_op op_mod (pe_op op_add (pv 3) (pe_ix (r := rIxL K) ix_list (pv 0) pe_int (fun _ _ => rfl))) pe_int) pe_int) (pg_sub (pv 0) pe_int set_list))
      (pss_one (ps_ret (pe_op op_mod (pe_op op_fdivW (pe_ix (r := rIxL K) ix_list (pv 0) pe_int (fun _ _ => rfl)) pe_int) (pv 1))))))), ?_⟩
    have wd : CDivW a m := wide_div (b := 100) (by omega) (by omega) (by decide) (by decide)
    have back : ∀ (x : Int) (H' : Hp), StateAt H' u → Fr u H H' → Q (.int (x % m)) H' := fun x H' h1 h2 => by
      have q0 := Int.emod_nonneg x (show m ≠ 0 by omega)
      have q1 := Int.emod_lt_of_pos x (show 0 < m by omega)
      have e : x % m = ((x % m).toNat : Int) := by omega
      rw [e]
      exact hq H' _ (by omega) h1 h2
    refine ⟨_, rfl, u, _, _, _, rfl, rfl, SqL.of hw, rfl, _, _, rfl, rfl, _, rfl, ifD (fun _ => ?_) (fun _ => ?_)⟩
    · refine ⟨_, rfl, u, _, _, _, rfl, rfl, SqL.of hw, rfl, _, rfl, _, _, rfl, rfl, (by show 0 < m; omega), ?_⟩
      refine ⟨_, rfl, u, _, _, _, rfl, rfl, SqL.of hw, rfl, _, rfl, _, _, rfl, rfl, wd, _, rfl, u, _, _, 0, rfl, rfl, hw, rfl, _, rfl, ?_⟩
      exact back a _ ⟨_, _, _, upd_same, b0, b1⟩ (fr_mut (Fr.refl _ _))
    · refine ⟨_, rfl, u, _, _, _, rfl, rfl, SqL.of hw, rfl, _, rfl, u, _, _, _, rfl, rfl, SqL.of hw, rfl, _, _, rfl, rfl, ⟨by decide, by decide⟩, _, _, rfl, rfl, _, _, rfl, rfl, .inl ⟨by omega, by omega⟩, ?_⟩
      refine ⟨_, rfl, _, rfl, u, _, _, _, rfl, rfl, SqL.of hw, rfl, _, _, rfl, rfl, _, _, rfl, rfl, (by show (0 : Int) < 2147483629; decide), _, _, rfl, rfl, _, rfl, u, _, _, 1, rfl, rfl, hw, rfl, ?_⟩
      refine ⟨_, rfl, u, _, _, _, rfl, rfl, SqL.of upd_same, rfl, _, _, rfl, rfl, ⟨by decide, by decide⟩, _, rfl, _, _, rfl, rfl, (by show 0 < m; omega), ?_⟩
      refine back _ _ ⟨_, _, _, upd_same, ?_, ?_⟩ (fr_mut (Fr.refl _ _))
      · have := Int.emod_nonneg (b * (b / 1009 + 69621) + c) (show (2147483629 : Int) ≠ 0 by decide)
        omega
      · have := Int.emod_lt_of_pos (b * (b / 1009 + 69621) + c) (show (0 : Int) < 2147483629 by decide)
        omega
end
end Kp


namespace Kp
open PySem PySem.Spec PyProof.Rows L2 KpR
/-- a deed of any amount from 1 on -/
def D.ok1 (caps : List Int) : D → Prop
  | .pour a b => a < caps.length ∧ b < caps.length ∧ a ≠ b
  | .put a k => a < caps.length ∧ 1 ≤ k
  | .draw a k => a < caps.length ∧ 1 ≤ k
  | .change a b => a < caps.length ∧ b < caps.length ∧ a ≠ b ∧ at0 caps a = at0 caps b
theorem cutAll {p : Hp → Prop} {b : Bool} {X C : Hp → Prop} (rest : ∀ h, p h → C h) (go : b = true → (∀ h, p h → C h) → ∀ h, p h → X h) : ∀ h, p h → if b = true then X h else C h := fun h s => by
  cases b with
  | true => exact ifT rfl (go rfl rest h s)
  | false => exact ifF rfl (rest h s)
section
variable {K : PySem.W.Frag} {mg : Str → Option Value}
def spLdeed (T : Tx K mg) : Sp := fun vs H Q _ => ∃ (s c : Addr) (caps : List Int), vs = [.ref s, .ref c] ∧ StateAt H s ∧ H c = some (.lst (vi caps)) ∧ c ≠ s ∧ Caps caps ∧
  ∀ (H' : Hp) (p : Addr) (d : D), H p = none → FactAt H' (.ref p) d → d.ok1 caps → StateAt H' s → Fr s H H' → Q (.ref p) H'
def spLhouse (T : Tx K mg) : Sp := fun vs H Q _ => ∃ (s : Addr) (j m : Int) (n : Nat), vs = [.ref s, .int j, .int m, .int n] ∧ StateAt H s ∧ 1 ≤ j ∧ j ≤ 5 ∧ 1 ≤ m ∧ m ≤ 1000000000000 ∧ n ≤ 20 ∧
  ∀ (H' : Hp) (p c f : Addr) (caps : List Int) (ts : List V) (ds : List D), H p = none → H' p = some (.tup [.ref c, .ref f]) → H c = none → H' c = some (.lst (vi caps)) → Caps caps → caps.length ≤ 5 → H f = none → H' f = some (.lst ts) → A2 (FactAt H') ts ds → ds.length = n → (∀ d ∈ ds, d.ok1 caps) → StateAt H' s → Fr s H H' → Q (.ref p) H'
end
section
variable {P : Program} {w : World} {K : PySem.W.Frag} {mg : Str → Option Value} {base : Heap}
theorem okLdeed (T : Tx K mg) : FnOk P w K mg base CX0 2 T.aLdeed T.dLdeed ["_law_s", "_law_sizes"] (spLdeed T) := by
  refine T.fLdeed.ok scLdeed (fun vs H Q E h => ?_) (fun cdv A outer s H vs Q E hr h => ?_)
  · obtain ⟨s, c, caps, rfl, _⟩ := h
    rfl
  · obtain ⟨s, c, caps, rfl, hs, hc, cs, hC, hq⟩ := h
    refine ⟨_, (pss_cons (ps_set (i := 2) scLdeed.nd rfl (by first | exact Or.inl rfl | exact Or.inr rfl) (pe_callB call_len_seq rfl T.nlen PySem.boot_len (pa_cons (pv 1) pa_nil)))
      (pss_cons (ps_set (i := 3) scLdeed.nd rfl (by first | exact Or.inl rfl | exact Or.inr rfl) (pe_call (okLdigit T) (hr.mono (by decide)) rfl T.gLdigit T.fLdigit.kp T.bLdigit .nil pass0 (pa_cons (pv 0) (pa_cons (pv 2) pa_nil))))
      (pss_cons (ps_set (i := 4) scLdeed.nd rfl (by first | exact Or.inl rfl | exact Or.inr rfl) (pe_call (okLdigit T) (hr.mono (by decide)) rfl T.gLdigit T.fLdigit.kp T.bLdigit .nil pass0 (pa_cons (pv 0) (pa_cons pe_int pa_nil))))
      (pss_cons (ps_if (PW.pt (pw_and (pt_cmpR op_gt (pv 2) pe_int (nomark _)) (pw_and1 (pt_cmpR op_lt (pv 4) pe_int (nomark _))))) (pss_cons (ps_set (i := 5) scLdeed.nd rfl (by first | exact Or.inl rfl | exact Or.inr rfl) (pe_op op_mod (pe_op op_add (pe_op op_add (pv 3) pe_int) (pe_call (okLdigit T) (hr.mono (by decide)) rfl T.gLdigit T.fLdigit.kp T.bLdigit .nil pass0 (pa_cons (pv 0) (pa_cons (pe_op op_sub (pv 2) pe_int) pa_nil)))) (pv 2)))
      (pss_cons (ps_if (PW.pt (pw_and (pt_cmpR op_eq (pv 4) pe_int (nomark _)) (pw_and1 (pt_cmpR op_eq (pe_ix (r := rIxL K) ix_list (pv 1) (pv 3) (fun _ _ => rfl)) (pe_ix (r := rIxL K) ix_list (pv 1) (pv 5) (fun _ _ => rfl)) (nomark _))))) (pss_one (ps_ret (pe_tup (pa_cons pe_str (pa_cons (pv 3) (pa_cons (pv 5) pa_nil)))))) pss_nil)
      (pss_one (ps_ret (pe_tup (pa_cons pe_str (pa_cons (pv 3) (pa_cons (pv 5) pa_nil)))))))) pss_nil)
      (pss_one (ps_ret (pe_tup (pa_cons (pe_ix (r := rIxL K) ix_list (pe_lst (pa_cons pe_str (pa_cons pe_str pa_nil))) (pe_op op_mod (pv 4) pe_int) (fun _ _ => rfl)) (pa_cons (pv 3) (pa_cons (pe_op op_add pe_int (pe_call (okLdigit T) (hr.mono (by decide)) rfl T.gLdigit T.fLdigit.kp T.bLdigit .nil pass0 (pa_cons (pv 0) (pa_cons (pe_op op_add (pe_ix (r := rIxL K) ix_list (pv 1) (pv 3) (fun _ _ => rfl)) pe_int) pa_nil)))) pa_nil)))))))))), ?_⟩
    have c1 := hC.l1
    have c6 := hC.l6
    have vl : (vi caps).length = caps.length := List.length_map ..
    refine ⟨_, rfl, c, _, rfl, .inl (SqL.of hc), ?_⟩
    rw [vl]
    refine ⟨_, rfl, _, rfl, s, _, rfl, hs, by omega, by omega, fun H1 a la s1 f1 => ?_⟩
    refine ⟨_, rfl, s, 8, rfl, s1, by decide, by decide, fun H2 k lk s2 f2 => ?_⟩
    have ha : a < caps.length := by omega
    have c2 := f2 _ _ cs (f1 _ _ cs hc)
    have f12 := f1.trans f2
    -- put or draw
    have fin : ∀ H3, StateAt H3 s → Fr s H H3 → H3 c = some (.lst (vi caps)) → ∀ (w0 : Str) (mk : Nat → Int → D), (∀ x z, (mk x z).word = w0 ∧ (mk x z).fst = x ∧ (mk x z).last = z ∧ (1 ≤ z → x < caps.length → (mk x z).ok1 caps)) → ∀ (H4 : Hp) (y : Nat) (p : Addr), StateAt H4 s → Fr s H3 H4 → H4 p = none → Q (.ref p) (upd H4 p (.tup [.str w0, .int a, .int (1 + (y : Int))])) := fun H3 s3 f3 hc3 w0 mk hm H4 y p s4 f4 hp => by
      have fA := f3.trans f4
      obtain ⟨e1, e2, e3, e4⟩ := hm a (1 + (y : Int))
      refine hq _ p (mk a (1 + (y : Int))) (fr_free fA (s4.ne hp) hp) ⟨p, rfl, ?_⟩ (e4 (by omega) ha) (s4.new hp) (fA.trans (Fr.of (same_new hp)))
      rw [upd_same, e1, e2, e3]
    have pr : StateAt H2 s ∧ Fr s H H2 ∧ H2 c = some (.lst (vi caps)) := ⟨s2, f12, c2⟩
    clear s2 f12 c2 f2
    refine ⟨_, rfl, _, _, rfl, rfl, _, rfl, ?_⟩
    revert H2
    refine cutAll (fun H3 ⟨s3, f3, c3⟩ => ?_) fun g1 go H3 pr => ?_
    · refine ⟨(by show 2 ≤ sizeLine; decide), fun l hl => ?_⟩
      have ls := s3.ne hl
      have sl := same_new (o := HO.lst [V.str "put", V.str "draw"]) hl
      refine ⟨_, rfl, _, _, rfl, rfl, (by show (0 : Int) < 2; decide), ?_⟩
      have k2 : (k : Int) % 2 = 0 ∨ (k : Int) % 2 = 1 := by omega
      rcases k2 with e | e
      · refine ⟨l, _, _, V.str "put", rfl, rfl, SqL.of upd_same, (by show atI _ ((k : Int) % 2) = _; rw [e]; rfl), _, rfl, _, rfl, _, rfl, _, rfl, c, _, _, _, rfl, rfl, SqL.of (sl _ _ c3), vi_at ha, _, _, rfl, rfl, s, _, rfl, s3.same sl, ?_, ?_, fun H4 y ly s4 f4 => ⟨_, _, rfl, rfl, (by show 3 ≤ sizeLine; decide), fun p hp => ?_⟩⟩
        · have := hC.lo a ha
          show (1 : Int) ≤ at0 caps a + 1
          omega
        · have := hC.hi a ha
          show at0 caps a + 1 < 2 ^ 100
          omega
        · exact fin _ (s3.same sl) (f3.trans (Fr.of sl)) (sl _ _ c3) "put" D.put (fun _ _ => ⟨rfl, rfl, rfl, fun h1 h2 => ⟨h2, h1⟩⟩) H4 y p s4 f4 hp
      · refine ⟨l, _, _, V.str "draw", rfl, rfl, SqL.of upd_same, (by show atI _ ((k : Int) % 2) = _; rw [e]; rfl), _, rfl, _, rfl, _, rfl, _, rfl, c, _, _, _, rfl, rfl, SqL.of (sl _ _ c3), vi_at ha, _, _, rfl, rfl, s, _, rfl, s3.same sl, ?_, ?_, fun H4 y ly s4 f4 => ⟨_, _, rfl, rfl, (by show 3 ≤ sizeLine; decide), fun p hp => ?_⟩⟩
        · have := hC.lo a ha
          show (1 : Int) ≤ at0 caps a + 1
          omega
        · have := hC.hi a ha
          show at0 caps a + 1 < 2 ^ 100
          omega
        · exact fin _ (s3.same sl) (f3.trans (Fr.of sl)) (sl _ _ c3) "draw" D.draw (fun _ _ => ⟨rfl, rfl, rfl, fun h1 h2 => ⟨h2, h1⟩⟩) H4 y p s4 f4 hp
    · obtain ⟨s3, f3, c3⟩ := id pr
      have g1 := of_decide_eq_true g1
      refine ⟨_, rfl, _, _, rfl, rfl, _, rfl, ifD (fun g5 => ?_) fun _ => go H3 pr⟩
      refine ⟨_, rfl, _, _, rfl, rfl, _, rfl, _, rfl, _, _, rfl, rfl, s, _, rfl, s3, by omega, by omega, fun H4 y ly s4 f4 => ⟨_, _, rfl, rfl, _, rfl, _, _, rfl, rfl, (by show (0 : Int) < (caps.length : Int); omega), ?_⟩⟩
      obtain ⟨b, eb, hb, hab⟩ : ∃ b : Nat, ((a : Int) + 1 + (y : Int)) % (caps.length : Int) = (b : Int) ∧ b < caps.length ∧ a ≠ b := by
        refine ⟨(a + 1 + y) % caps.length, (by rw [Int.natCast_emod, Int.natCast_add, Int.natCast_add]; rfl), Nat.mod_lt _ (by omega), ?_⟩
        have hy : y + 1 < caps.length := by omega
        by_cases g : a + 1 + y < caps.length
        · rw [Nat.mod_eq_of_lt g]
          omega
        · have : (a + 1 + y) % caps.length = a + 1 + y - caps.length := by
            rw [Nat.mod_eq_sub_mod (by omega), Nat.mod_eq_of_lt (by omega)]
          omega
      refine (congrArg (fun z : Int => gName 5 (V.int z) _ _ _) eb).mpr ?_
      have c4 := f4 _ _ cs c3
      have f04 := f3.trans f4
      have end_ : ∀ (w0 : Str) (d : D), d.word = w0 → d.fst = a → d.last = (b : Int) → d.ok1 caps → ∀ p, H4 p = none → Q (.ref p) (upd H4 p (.tup [.str w0, .int a, .int b])) := fun w0 d e1 e2 e3 e4 p hp => by
        refine hq _ p d (fr_free f04 (s4.ne hp) hp) ⟨p, rfl, ?_⟩ e4 (s4.new hp) (f04.trans (Fr.of (same_new hp)))
        rw [upd_same, e1, e2, e3]
      have pour := end_ "pour" (.pour a b) rfl rfl rfl ⟨ha, hb, hab⟩
      refine ⟨_, rfl, rfl, _, rfl, ifD (fun _ => ?_) fun _ => ifF rfl ⟨_, rfl, _, rfl, (by show 3 ≤ sizeLine; decide), pour⟩⟩
      refine ⟨_, rfl, _, rfl, c, _, _, _, rfl, rfl, SqL.of c4, vi_at ha, _, rfl, _, rfl, c, _, _, _, rfl, rfl, SqL.of c4, vi_at hb, rfl, _, rfl, ifD (fun e => ?_) fun _ => ⟨_, rfl, _, rfl, (by show 3 ≤ sizeLine; decide), pour⟩⟩
      injection e with e
      exact ⟨_, rfl, _, rfl, (by show 3 ≤ sizeLine; decide), end_ "change" (.change a b) rfl rfl rfl ⟨ha, hb, hab, e⟩⟩
theorem okLhouse (T : Tx K mg) : FnOk P w K mg base CX0 3 T.aLhouse T.dLhouse ["_law_s", "_law_jars", "_law_most", "_law_deeds"] (spLhouse T) := by
  refine T.fLhouse.ok scLhouse (fun vs H Q E h => ?_) (fun cdv A outer s H vs Q E hr h => ?_)
  · obtain ⟨s, j, m, n, rfl, _⟩ := h
    rfl
  · obtain ⟨s, j, m, n, rfl, hs, j1, j5, m1, m2, n20, hq⟩ := h
    refine ⟨_, (pss_cons (ps_set (i := 4) scLhouse.nd rfl (by first | exact Or.inl rfl | exact Or.inr rfl) (pe_lc (own := [("_law_k", 5)]) rfl scLhouse.nd (pi_range1 rfl T.nrange (pa_cons (pv 1) pa_nil)) (blkOk_by (own := [("_law_k", 5)]) (N := ["_law_s", "_law_jars", "_law_most", "_law_deeds", "_law_sizes", "_law_k"]) (sc := defScope sLhouse) (by decide +kernel)) (fun _ _ _ _ _ => (pg_name (i := 5) scLhouse.nd rfl (by first | exact Or.inl rfl | exact Or.inr rfl))) (fun _ _ _ _ _ => pts_nil) (fun _ _ _ _ _ => (pe_op op_add pe_int (pe_call (okLdigit T) (hr.mono (by decide)) rfl T.gLdigit T.fLdigit.kp T.bLdigit .nil pass0 (pa_cons (pv 0) (pa_cons (pv 2) pa_nil)))))))
      (C8.pss_cut (ps_if (pt_cmpR op_eq (pe_call (okLdigit T) (hr.mono (by decide)) rfl T.gLdigit T.fLdigit.kp T.bLdigit .nil pass0 (pa_cons (pv 0) (pa_cons pe_int pa_nil))) pe_int (nomark _)) (pss_one (ps_asg (pe_ix (r := rIxL K) ix_list (pv 4) pe_int (fun _ _ => rfl)) (pg_sub (pv 4) (pe_un un_neg pe_int) set_list))) pss_nil)
      (pss_one (ps_ret (pe_tup (pa_cons (pv 4) (pa_cons (pe_lc (own := [("_law_k", 5)]) rfl scLhouse.nd (pi_range1 rfl T.nrange (pa_cons (pv 3) pa_nil)) (blkOk_by (own := [("_law_k", 5)]) (N := ["_law_s", "_law_jars", "_law_most", "_law_deeds", "_law_sizes", "_law_k"]) (sc := defScope sLhouse) (by decide +kernel)) (fun _ _ _ _ _ => (pg_name (i := 5) scLhouse.nd rfl (by first | exact Or.inl rfl | exact Or.inr rfl))) (fun _ _ _ _ _ => pts_nil) (fun _ _ _ _ _ => (pe_call (okLdeed T) (hr.mono (by decide)) rfl T.gLdeed T.fLdeed.kp T.bLdeed .nil pass0 (pa_cons (pv 0) (pa_cons (pv 4) pa_nil))))) pa_nil))))))), ?_⟩
    refine ⟨_, rfl, j, rfl, by omega, by omega, fun D1 hD1 => ?_⟩
    have Ds := hs.ne hD1
    refine lc_range (lo := 0) (n := j.toNat) (fun i H' => ∃ caps : List Int, H' D1 = some (.lst (vi caps)) ∧ Mid caps ∧ caps.length = i ∧ StateAt H' s ∧ Fr s H H') ⟨[], upd_same, Mid.nil, rfl, hs.new hD1, Fr.of (same_new hD1)⟩ ?_ ?_
    · rintro i H' hi ⟨caps, k1, k2, k3, k4, k5⟩
      refine ⟨rfl, _, rfl, _, rfl, s, m, rfl, k4, by omega, by omega, fun H2 x lx s2 f2 => ⟨_, _, rfl, rfl, ?_⟩⟩
      refine ⟨_, f2 _ _ Ds k1, Nat.lt_of_lt_of_le (by rw [List.length_map]; omega : _ < 100) (by decide), caps ++ [1 + (x : Int)], ?_, k2.app (by omega) (by omega), by simp [k3], s2.mut Ds, fr_new (k5.trans f2) hD1⟩
      rw [upd_same]
      simp [vi]
    · rintro H1 ⟨caps, k1, k2, k3, s1, f1⟩
      have l1 : 1 ≤ caps.length := by omega
      have l5 : caps.length ≤ 5 := by omega
      refine ⟨fun σ' H' => ∃ (v5 : Option V) (caps' : List Int), σ' = [some (.ref s), some (.int j), some (.int m), some (.int n), some (.ref D1), v5] ∧ H' D1 = some (.lst (vi caps')) ∧ Caps caps' ∧ caps'.length = caps.length ∧ StateAt H' s ∧ Fr s H H', ?_, ?_⟩
      · refine ⟨_, rfl, s, 3, rfl, s1, by decide, by decide, fun H2 x lx s2 f2 => ⟨rfl, _, rfl, ?_⟩⟩
        have g2 := f2 _ _ Ds k1
        refine ifD (fun _ => ?_) fun _ => ⟨_, caps, rfl, g2, k2.caps l1 (by omega), rfl, s2, f1.trans f2⟩
        refine ⟨_, rfl, D1, _, _, _, rfl, rfl, SqL.of g2, vi_at (by omega : 0 < caps.length), _, rfl, _, rfl, D1, _, _, caps.length - 1, rfl, rfl, g2, ?_, ?_⟩
        · rw [List.length_map]
          have e : caps.length = (caps.length - 1) + 1 := by omega
          rw [e]
          exact ixN_last
        · refine ⟨_, caps.set (caps.length - 1) (at0 caps 0), rfl, ?_, (k2.set (by omega)).caps (by simp; omega) (by simp; omega), by simp, s2.mut Ds, fr_new (f1.trans f2) hD1⟩
          rw [upd_same, vi_set]
          rfl
      · rintro σ' H2 ⟨v5, caps', rfl, g2, hC, el, s2, f2⟩
        refine ⟨_, rfl, _, rfl, n, rfl, by omega, by omega, fun D2 hD2 => ?_⟩
        have D2s := s2.ne hD2
        have D12 : D1 ≠ D2 := ne_of_none g2 hD2
        refine lc_range (lo := 0) (n := (n : Int).toNat) (fun i H' => ∃ (ts : List V) (ds : List D), H' D2 = some (.lst ts) ∧ A2 (FactAt H') ts ds ∧ (∀ d ∈ ds, d.ok1 caps') ∧ ds.length = i ∧ StateAt H' s ∧ Fr s H2 H') ⟨[], [], upd_same, trivial, (fun d h => by cases h), rfl, s2.new hD2, Fr.of (same_new hD2)⟩ ?_ ?_
        · rintro i H' hi ⟨ts, ds, q1, q2, q3, q4, q5, q6⟩
          refine ⟨rfl, _, rfl, _, rfl, s, D1, caps', rfl, q5, q6 _ _ Ds g2, Ds, hC, fun H3 p d p0 hF hd s3 f3 => ?_⟩
          have gD := f3 _ _ D2s q1
          obtain ⟨o, ho, hb⟩ := q5.ex
          have bl : Fr D2 H3 (upd H3 D2 (.lst (ts ++ [V.ref p]))) := fr_mut (Fr.refl _ _)
          have tl := q2.len
          refine ⟨_, gD, Nat.lt_of_lt_of_le (by omega : ts.length < 100) (by decide), ts ++ [V.ref p], ds ++ [d], upd_same, A2.app (A2.mono (fun _ _ k => FactAt.fr bl gD bl_l (k.fr f3 ho hb)) q2) ⟨FactAt.fr bl gD bl_l hF, trivial⟩, ?_, by simp [q4], s3.mut D2s, fr_new (q6.trans f3) hD2⟩
          intro c hc
          rcases List.mem_append.mp hc with h | h
          · exact q3 c h
          · obtain rfl : c = d := by simpa using h
            exact hd
        · rintro H3 ⟨ts, ds, q1, q2, q3, q4, s3, f3⟩
          rw [Int.toNat_natCast] at q4
          refine ⟨(by show 2 ≤ sizeLine; decide), fun p hp => ?_⟩
          have sp := same_new (o := HO.tup [V.ref D1, V.ref D2]) hp
          have fA := f2.trans f3
          exact hq _ p D1 D2 caps' ts ds (fr_free fA (s3.ne hp) hp) upd_same hD1 (sp _ _ (f3 _ _ Ds g2)) hC (by omega) (fr_free f2 D2s hD2) (sp _ _ q1) (A2.mono (fun _ _ k => FactAt.same sp k) q2) q4 q3 (s3.new hp) (fA.trans (Fr.of sp))
end
end Kp

namespace Kp
open PySem PySem.Spec PyProof.Rows L2 KpR
section
variable {K : PySem.W.Frag} {mg : Str → Option Value}
def spLrow (T : Tx K mg) : Sp := fun vs H Q _ => ∃ (c f : Addr) (caps : List Int) (ts : List V) (ds : List D), vs = [.ref c, .ref f] ∧ H c = some (.lst (vi caps)) ∧ Caps caps ∧ H f = some (.lst ts) ∧ A2 (FactAt H) ts ds ∧ ds.length ≤ 20 ∧ (∀ d ∈ ds, d.ok caps) ∧
  ∀ (H' : Hp) (r : Addr), H r = none → RowAt T H' r caps ds → Same H H' → Q (.ref r) H'
def spLonce (T : Tx K mg) : Sp := fun vs H Q _ => ∃ (c f a : Addr) (caps st : List Int) (ts : List V) (ds : List D) (p : Int), vs = [.ref c, .ref f, .ref a, .int p] ∧ H c = some (.lst (vi caps)) ∧ H f = some (.lst ts) ∧ A2 (FactAt H) ts ds ∧ (∀ d ∈ ds, d.ok caps) ∧ SqL K H a (vi st) ∧ st.length = caps.length ∧ 1 ≤ p ∧ p < 2 ^ 62 ∧
  ∀ (H' : Hp) (r : Addr), H r = none → H' r = some (.lst (vi (run caps p ds st))) → Same H H' → Q (.ref r) H'
theorem at_set {xs : List V} {b : Nat} {v : V} (h : b < xs.length) : atI (xs.set b v) (b : Int) = some v := atI_nat (by simp [h])
end
section
variable {P : Program} {w : World} {K : PySem.W.Frag} {mg : Str → Option Value} {base : Heap}
theorem okLrow (T : Tx K mg) : FnOk P w K mg base CX0 5 T.aLrow T.dLrow ["_law_sizes", "_law_deeds"] (spLrow T) := by
  refine T.fLrow.ok scLrow (fun vs H Q E h => ?_) (fun cdv A outer s H vs Q E hr h => ?_)
  · obtain ⟨c, f, caps, ts, ds, rfl, _⟩ := h
    rfl
  · obtain ⟨c, f, caps, ts, ds, rfl, hc, hC, hf, hA, l20, ok, hq⟩ := h
    refine ⟨_, (pss_cons (ps_set (i := 2) scLrow.nd rfl (by first | exact Or.inl rfl | exact Or.inr rfl) (pe_lst pa_nil))
      (pss_cons (ps_for PassesOwn.never rfl (pi_list (pv 1)) (pg_tup rfl (pgs_cons (pg_name (i := 3) scLrow.nd rfl (by first | exact Or.inl rfl | exact Or.inr rfl)) (pgs_cons (pg_name (i := 4) scLrow.nd rfl (by first | exact Or.inl rfl | exact Or.inr rfl)) (pgs_cons (pg_name (i := 5) scLrow.nd rfl (by first | exact Or.inl rfl | exact Or.inr rfl)) pgs_nil)))) (pss_one (ps_if (pt_cmpR op_eq (pv 3) pe_str (nomark _)) (pss_one (ps_expr (pe_bm PySem.F.plainAttrs_list PySem.F.slot_list_append PySem.F.type_list_append mt_append (pv 2) (pa_cons (pe_make T.kPour (okPourInit T) (hr.mono (by decide)) rfl T.mPour T.bPourInit .nil pass0 (pa_cons (pv 4) (pa_cons (pv 5) pa_nil))) pa_nil)))) (pss_one (ps_if (pt_cmpR op_eq (pv 3) pe_str (nomark _)) (pss_one (ps_expr (pe_bm PySem.F.plainAttrs_list PySem.F.slot_list_append PySem.F.type_list_append mt_append (pv 2) (pa_cons (pe_make T.kChange (okChangeInit T) (hr.mono (by decide)) rfl T.mChange T.bChangeInit .nil pass0 (pa_cons (pv 4) (pa_cons (pv 5) pa_nil))) pa_nil)))) (pss_one (ps_if (pt_cmpR op_eq (pv 3) pe_str (nomark _)) (pss_one (ps_expr (pe_bm PySem.F.plainAttrs_list PySem.F.slot_list_append PySem.F.type_list_append mt_append (pv 2) (pa_cons (pe_make T.kPut (okPutInit T) (hr.mono (by decide)) rfl T.mPut T.bPutInit .nil pass0 (pa_cons (pv 4) (pa_cons (pv 5) pa_nil))) pa_nil)))) (pss_one (ps_expr (pe_bm PySem.F.plainAttrs_list PySem.F.slot_list_append PySem.F.type_list_append mt_append (pv 2) (pa_cons (pe_make T.kDraw (okDrawInit T) (hr.mono (by decide)) rfl T.mDraw T.bDrawInit .nil pass0 (pa_cons (pv 4) (pa_cons (pv 5) pa_nil))) pa_nil)))))))))))
      (pss_one (ps_ret (pe_make T.kRow (okRowInit T) (hr.mono (by decide)) rfl T.mRow T.bRowInit .nil pass0 (pa_cons (pe_make T.kJars (okJarsInit T) (hr.mono (by decide)) rfl T.mJars T.bJarsInit .nil pass0 (pa_cons (pv 0) pa_nil)) (pa_cons (pv 2) pa_nil))))))), ?_⟩
    refine ⟨(by show 0 ≤ sizeLine; decide), fun g hg => ?_⟩
    have fg : f ≠ g := ne_of_none hf hg
    have cg : c ≠ g := ne_of_none hc hg
    refine ⟨_, rfl, f, rfl, ⟨_, (same_new hg).seq (SqL.of hf)⟩, ?_⟩
    refine for_list (K := K) (a := f) (xs := ts) (fun i σ H' => ∃ (v3 v4 v5 : Option V) (us : List V), σ = [some (.ref c), some (.ref f), some (.ref g), v3, v4, v5] ∧ H' g = some (.lst us) ∧ A2 (DeedAt T H') us (ds.take i) ∧ Same H H')
      ⟨none, none, none, [], rfl, upd_same, by simp [A2], same_new hg⟩ (fun i σ H' _ ⟨_, _, _, _, _, _, _, e⟩ => e.seq (SqL.of hf)) ?_ ?_
    · rintro i y σ H' hi ⟨v3, v4, v5, us, rfl, k1, k2, sm⟩
      obtain ⟨d, hd, hy⟩ := hA.get hi
      obtain ⟨t, rfl, ht⟩ := hy.same sm
      have ul := k2.len
      have ub : (ds.take i).length ≤ 20 := by rw [List.length_take]; omega
      have fin : ∀ (H2 : Hp) (x : Addr), Same H' H2 → DeedAt T H2 (.ref x) d → A2 (DeedAt T (upd H2 g (.lst (us ++ [V.ref x])))) (us ++ [V.ref x]) (ds.take (i + 1)) ∧ Same H (upd H2 g (.lst (us ++ [V.ref x]))) := fun H2 x s2 hx => by
        have bl : Fr g H2 (upd H2 g (.lst (us ++ [V.ref x]))) := fr_mut (Fr.refl _ _)
        have gD := s2 _ _ k1
        refine ⟨?_, same_mut (sm.trans s2) hg⟩
        rw [List.take_add_one, hd]
        exact A2.app (A2.mono (fun _ _ k => DeedAt.fr bl gD bl_l (k.same s2)) k2) ⟨DeedAt.fr bl gD bl_l hx, trivial⟩
      have sz : us.length < sizeLine := Nat.lt_of_lt_of_le (by omega : us.length < 100) (by decide)
      refine ⟨t, _, rfl, SqT.of ht, rfl, _, _, rfl, _, _, rfl, _, _, rfl, rfl, _, rfl, rfl, _, rfl, ?_⟩
      cases d with
      | pour a b =>
        refine ifT (show decide (V.str "pour" = V.str "pour") = true by decide +kernel) ⟨_, rfl, .inl ⟨rfl, _, SqL.of k1⟩, _, rfl, _, rfl, fun x dx hx hdx ne => ⟨x, dx, _, _, rfl, upd_same, fun H2 h2 fr => ⟨rfl, ?_⟩⟩⟩
        have s2 := made_same hx hdx fr
        have z := fin H2 x s2 ⟨x, dx, rfl, h2⟩
        exact ⟨g, _, _, rfl, rfl, s2 _ _ k1, sz, _, _, _, _, rfl, upd_same, z.1, z.2⟩
      | put a k =>
        refine ifF (show decide (V.str "put" = V.str "pour") = false by decide +kernel) ⟨_, rfl, rfl, _, rfl, ifF (show decide (V.str "put" = V.str "change") = false by decide +kernel) ⟨_, rfl, rfl, _, rfl, ifT (show decide (V.str "put" = V.str "put") = true by decide +kernel) ⟨_, rfl, .inl ⟨rfl, _, SqL.of k1⟩, _, rfl, _, rfl, fun x dx hx hdx ne => ⟨x, dx, _, _, rfl, upd_same, fun H2 h2 fr => ⟨rfl, ?_⟩⟩⟩⟩⟩
        have s2 := made_same hx hdx fr
        have z := fin H2 x s2 ⟨x, dx, rfl, h2⟩
        exact ⟨g, _, _, rfl, rfl, s2 _ _ k1, sz, _, _, _, _, rfl, upd_same, z.1, z.2⟩
      | draw a k =>
        refine ifF (show decide (V.str "draw" = V.str "pour") = false by decide +kernel) ⟨_, rfl, rfl, _, rfl, ifF (show decide (V.str "draw" = V.str "change") = false by decide +kernel) ⟨_, rfl, rfl, _, rfl, ifF (show decide (V.str "draw" = V.str "put") = false by decide +kernel) ⟨_, rfl, .inl ⟨rfl, _, SqL.of k1⟩, _, rfl, _, rfl, fun x dx hx hdx ne => ⟨x, dx, _, _, rfl, upd_same, fun H2 h2 fr => ⟨rfl, ?_⟩⟩⟩⟩⟩
        have s2 := made_same hx hdx fr
        have z := fin H2 x s2 ⟨x, dx, rfl, h2⟩
        exact ⟨g, _, _, rfl, rfl, s2 _ _ k1, sz, _, _, _, _, rfl, upd_same, z.1, z.2⟩
      | change a b =>
        refine ifF (show decide (V.str "change" = V.str "pour") = false by decide +kernel) ⟨_, rfl, rfl, _, rfl, ifT (show decide (V.str "change" = V.str "change") = true by decide +kernel) ⟨_, rfl, .inl ⟨rfl, _, SqL.of k1⟩, _, rfl, _, rfl, fun x dx hx hdx ne => ⟨x, dx, _, _, rfl, upd_same, fun H2 h2 fr => ⟨rfl, ?_⟩⟩⟩⟩
        have s2 := made_same hx hdx fr
        have z := fin H2 x s2 ⟨x, dx, rfl, h2⟩
        exact ⟨g, _, _, rfl, rfl, s2 _ _ k1, sz, _, _, _, _, rfl, upd_same, z.1, z.2⟩
    · rintro σ H' ⟨v3, v4, v5, us, rfl, k1, k2, sm⟩
      rw [hA.len, List.take_length] at k2
      refine ⟨_, rfl, fun x dx hx hdx ne => ?_⟩
      have s1 : Same H' (upd (upd H' dx (.own x)) x (.ins T.cJars dx [])) := (same_new hdx).trans (same_new (by rw [upd_ne ne.symm]; exact hx))
      refine ⟨x, dx, c, caps, rfl, upd_same, s1.seq (SqL.of (sm _ _ hc)), hC, fun H1 hJ fr => ⟨rfl, ?_⟩⟩
      have s2 := made_same hx hdx fr
      refine ⟨_, rfl, fun x2 dx2 hx2 hdx2 ne2 => ?_⟩
      have s3 : Same H1 (upd (upd H1 dx2 (.own x2)) x2 (.ins T.cRow dx2 [])) := (same_new hdx2).trans (same_new (by rw [upd_ne ne2.symm]; exact hx2))
      refine ⟨x2, dx2, x, g, caps, us, ds, rfl, upd_same, hJ.same s3, s3 _ _ (s2 _ _ k1), A2.mono (fun _ _ k => k.same (s2.trans s3)) k2, l20, ok, fun H5 hR fr5 => ⟨rfl, ?_⟩⟩
      exact hq H5 x2 ((sm.trans s2).free hx2) hR ((sm.trans s2).trans (made_same hx2 hdx2 fr5))
theorem okLonce (T : Tx K mg) : FnOk P w K mg base CX0 1 T.aLonce T.dLonce ["_law_sizes", "_law_deeds", "_law_start", "_law_share"] (spLonce T) := by
  refine T.fLonce.ok scLonce (fun vs H Q E h => ?_) (fun cdv A outer s H vs Q E hr h => ?_)
  · obtain ⟨c, f, a, caps, st, ts, ds, p, rfl, _⟩ := h
    rfl
  · obtain ⟨c, f, a, caps, st, ts, ds, p, rfl, hc, hf, hA, ok, hS, hl, p1, p2, hq⟩ := h
    refine ⟨_, (pss_cons (ps_set (i := 4) scLonce.nd rfl (by first | exact Or.inl rfl | exact Or.inr rfl) (pe_callTy call_list_of rfl T.nlist (by decide +kernel) (pa_cons (pv 2) pa_nil)))
      (pss_cons (ps_for PassesOwn.never rfl (pi_list (pv 1)) (pg_tup rfl (pgs_cons (pg_name (i := 5) scLonce.nd rfl (by first | exact Or.inl rfl | exact Or.inr rfl)) (pgs_cons (pg_name (i := 6) scLonce.nd rfl (by first | exact Or.inl rfl | exact Or.inr rfl)) (pgs_cons (pg_name (i := 7) scLonce.nd rfl (by first | exact Or.inl rfl | exact Or.inr rfl)) pgs_nil)))) (pss_one (ps_if (pt_cmpR op_eq (pv 5) pe_str (nomark _)) (pss_one (ps_asg (pe_tup (pa_cons (pe_ix (r := rIxL K) ix_list (pv 4) (pv 7) (fun _ _ => rfl)) (pa_cons (pe_ix (r := rIxL K) ix_list (pv 4) (pv 6) (fun _ _ => rfl)) pa_nil))) (pg_tup rfl (pgs_cons (pg_sub (pv 4) (pv 6) set_list) (pgs_cons (pg_sub (pv 4) (pv 7) set_list) pgs_nil))))) (pss_one (ps_if (pt_cmpR op_eq (pv 5) pe_str (nomark _)) (pss_cons (ps_set (i := 8) scLonce.nd rfl (by first | exact Or.inl rfl | exact Or.inr rfl) (pe_op op_add (pe_ix (r := rIxL K) ix_list (pv 4) (pv 6) (fun _ _ => rfl)) (pe_ix (r := rIxL K) ix_list (pv 4) (pv 7) (fun _ _ => rfl))))
      (pss_cons (ps_asg (pe_callB (call_min2 rfl) rfl T.nmin (by decide +kernel) (pa_cons (pv 8) (pa_cons (pe_op op_mul (pe_ix (r := rIxL K) ix_list (pv 0) (pv 7) (fun _ _ => rfl)) (pv 3)) pa_nil))) (pg_sub (pv 4) (pv 7) set_list))
      (pss_one (ps_asg (pe_op op_sub (pv 8) (pe_ix (r := rIxL K) ix_list (pv 4) (pv 7) (fun _ _ => rfl))) (pg_sub (pv 4) (pv 6) set_list))))) (pss_one (ps_if (pt_cmpR op_eq (pv 5) pe_str (nomark _)) (pss_one (ps_asg (pe_callB (call_min2 rfl) rfl T.nmin (by decide +kernel) (pa_cons (pe_op op_mul (pe_ix (r := rIxL K) ix_list (pv 0) (pv 6) (fun _ _ => rfl)) (pv 3)) (pa_cons (pe_op op_add (pe_ix (r := rIxL K) ix_list (pv 4) (pv 6) (fun _ _ => rfl)) (pe_op op_mul (pv 7) (pv 3))) pa_nil))) (pg_sub (pv 4) (pv 6) set_list))) (pss_one (ps_asg (pe_callB (call_max2 rfl) rfl T.nmax (by decide +kernel) (pa_cons pe_int (pa_cons (pe_op op_sub (pe_ix (r := rIxL K) ix_list (pv 4) (pv 6) (fun _ _ => rfl)) (pe_op op_mul (pv 7) (pv 3))) pa_nil))) (pg_sub (pv 4) (pv 6) set_list))))))))))
      (pss_one (ps_ret (pv 4))))), ?_⟩
    refine ⟨_, rfl, a, _, rfl, .inl hS, fun l hn => ?_⟩
    have fl : f ≠ l := ne_of_none hf hn
    have cl : c ≠ l := ne_of_none hc hn
    refine ⟨_, rfl, f, rfl, ⟨_, (same_new hn).seq (SqL.of hf)⟩, ?_⟩
    refine for_list (K := K) (a := f) (xs := ts) (fun i σ H' => ∃ v5 v6 v7 v8 : Option V, σ = [some (.ref c), some (.ref f), some (.ref a), some (.int p), some (.ref l), v5, v6, v7, v8] ∧ H' l = some (.lst (vi (run caps p (ds.take i) st))) ∧ Same H H')
      ⟨none, none, none, none, rfl, upd_same, same_new hn⟩ (fun i σ H' _ ⟨_, _, _, _, _, _, e⟩ => e.seq (SqL.of hf)) ?_ ?_
    · rintro i y σ H' hi ⟨v5, v6, v7, v8, rfl, k1, sm⟩
      obtain ⟨d, hd, hy⟩ := hA.get hi
      have okd := ok d (List.mem_of_getElem? hd)
      obtain ⟨t, rfl, ht⟩ := hy.same sm
      have hc1 : SqL K H' c (vi caps) := SqL.of (sm _ _ hc)
      have rs := run_snoc (caps := caps) (p := p) (st := st) hd
      have rl : (run caps p (ds.take i) st).length = caps.length := by rw [run_len, hl]
      rw [← stepW_act rl okd] at rs
      generalize run caps p (ds.take i) st = cu at k1 rs rl
      have ha : d.fst < caps.length := by cases d <;> exact okd.1
      have la : d.fst < cu.length := by omega
      refine ⟨t, _, rfl, SqT.of ht, rfl, _, _, rfl, _, _, rfl, _, _, rfl, rfl, _, rfl, rfl, _, rfl, ?_⟩
      rw [rs]
      cases d with
      | change x b =>
        have lb : b < cu.length := by rw [rl]; exact okd.2.1
        refine ifT (show decide (V.str "change" = V.str "change") = true by decide +kernel) ?_
        refine ⟨_, rfl, _, rfl, l, _, _, _, rfl, rfl, SqL.of k1, vi_at lb, _, rfl, _, rfl, l, _, _, _, rfl, rfl, SqL.of k1, vi_at la, (by show 2 ≤ sizeLine; decide), fun t2 ht2 => ?_⟩
        have lt2 : l ≠ t2 := fun z => by rw [← z, k1] at ht2; cases ht2
        refine ⟨t2, _, rfl, SqT.of upd_same, rfl, _, _, rfl, _, rfl, _, rfl, l, _, _, x, rfl, rfl, (by rw [upd_ne lt2]; exact k1), ixN_nat (by rw [List.length_map]; exact la), ?_⟩
        refine ⟨_, _, rfl, _, rfl, _, rfl, l, _, _, b, rfl, rfl, upd_same, ixN_nat (by rw [List.length_set, List.length_map]; exact lb), rfl, ?_⟩
        refine ⟨_, _, _, _, rfl, ?_, same_mut (same_mut (sm.trans (same_new ht2)) hn) hn⟩
        rw [upd_same, vi_set, vi_set]
        rfl
      | pour x b =>
        have lb : b < cu.length := by rw [rl]; exact okd.2.1
        refine ifF (show decide (V.str "pour" = V.str "change") = false by decide +kernel) ⟨_, rfl, rfl, _, rfl, ifT (show decide (V.str "pour" = V.str "pour") = true by decide +kernel) ?_⟩
        refine ⟨_, rfl, _, rfl, l, _, _, _, rfl, rfl, SqL.of k1, vi_at la, _, rfl, _, rfl, l, _, _, _, rfl, rfl, SqL.of k1, vi_at lb, _, _, rfl, rfl, ?_⟩
        refine ⟨_, rfl, _, rfl, _, rfl, c, _, _, _, rfl, rfl, hc1, vi_at okd.2.1, _, rfl, _, _, rfl, rfl, .inr (mulP p1 p2), _, _, rfl, ?_⟩
        refine ⟨_, rfl, _, rfl, l, _, _, b, rfl, rfl, k1, ixN_nat (by rw [List.length_map]; exact lb), ?_⟩
        refine ⟨_, rfl, _, rfl, _, rfl, l, _, _, _, rfl, rfl, SqL.of upd_same, at_set (by rw [List.length_map]; exact lb), _, _, rfl, rfl, ?_⟩
        refine ⟨_, rfl, _, rfl, l, _, _, x, rfl, rfl, upd_same, ixN_nat (by rw [List.length_set, List.length_map]; exact la), ?_⟩
        refine ⟨_, _, _, _, rfl, ?_, same_mut (same_mut sm hn) hn⟩
        rw [upd_same, vi_set, vi_set]
        simp only [stepW]
        rw [at0_set lb, if_pos rfl]
        rfl
      | put x k =>
        refine ifF (show decide (V.str "put" = V.str "change") = false by decide +kernel) ⟨_, rfl, rfl, _, rfl, ifF (show decide (V.str "put" = V.str "pour") = false by decide +kernel) ⟨_, rfl, rfl, _, rfl, ifT (show decide (V.str "put" = V.str "put") = true by decide +kernel) ?_⟩⟩
        refine ⟨_, rfl, _, rfl, c, _, _, _, rfl, rfl, hc1, vi_at ha, _, rfl, _, _, rfl, rfl, .inr (mulP p1 p2), ?_⟩
        refine ⟨_, rfl, _, rfl, l, _, _, _, rfl, rfl, SqL.of k1, vi_at la, _, rfl, _, rfl, _, _, rfl, rfl, .inr (mulP p1 p2), _, _, rfl, rfl, _, _, rfl, ?_⟩
        refine ⟨_, rfl, _, rfl, l, _, _, x, rfl, rfl, k1, ixN_nat (by rw [List.length_map]; exact la), ?_⟩
        refine ⟨_, _, _, _, rfl, ?_, same_mut sm hn⟩
        rw [upd_same, vi_set]
        rfl
      | draw x k =>
        refine ifF (show decide (V.str "draw" = V.str "change") = false by decide +kernel) ⟨_, rfl, rfl, _, rfl, ifF (show decide (V.str "draw" = V.str "pour") = false by decide +kernel) ⟨_, rfl, rfl, _, rfl, ifF (show decide (V.str "draw" = V.str "put") = false by decide +kernel) ?_⟩⟩
        refine ⟨_, rfl, _, rfl, l, _, _, _, rfl, rfl, SqL.of k1, vi_at la, _, rfl, _, rfl, _, _, rfl, rfl, .inr (mulP p1 p2), _, _, rfl, rfl, _, _, rfl, ?_⟩
        refine ⟨_, rfl, _, rfl, l, _, _, x, rfl, rfl, k1, ixN_nat (by rw [List.length_map]; exact la), ?_⟩
        refine ⟨_, _, _, _, rfl, ?_, same_mut sm hn⟩
        rw [upd_same, vi_set]
        rfl
    · rintro σ H' ⟨v5, v6, v7, v8, rfl, k1, sm⟩
      rw [hA.len, List.take_length] at k1
      exact ⟨_, rfl, hq H' l hn k1 sm⟩
end
end Kp

namespace Kp
open PySem PySem.Spec PyProof.Rows L2 KpR
/-- [.. for a, b in zip(xs, ys)], two lists of one length -/
theorem lc_zipK {K : PySem.W.Frag} {a b : Addr} {xs ys : List V} {g : TG} {tt : TT} {te : TE} {vs : List Nat} {σ : L2.St} {H1 : Hp} {Dd : Addr} {Qd : Hp → Prop} (hl : xs.length = ys.length) (Pv : Nat → Hp → Prop) (h0 : Pv 0 (upd H1 Dd (.lst [])))
    (hq : ∀ i H, Pv i H → SqL K H a xs ∧ SqL K H b ys)
    (hs : ∀ i x y T H, xs[i]? = some x → ys[i]? = some y → Pv i H → H T = none → g (.ref T) (wipe σ vs) (upd H T (.tup [x, y])) fun σ2 H2 => wipe σ2 vs = wipe σ vs ∧ tt σ2 H2 fun c H3 =>
      if c = true then te σ2 H3 fun z H4 => ∃ acc, H4 Dd = some (.lst acc) ∧ acc.length < sizeLine ∧ Pv (i + 1) (upd H4 Dd (.lst (acc ++ [z]))) else Pv (i + 1) H3)
    (hd : ∀ H, Pv xs.length H → Qd H) :
    ∃ W : Nat → Nat → Hp → Prop, (∃ m, W 0 m (upd H1 Dd (.lst []))) ∧ ∀ i m H, W i m H →
      ((Itz K a b).stop i H ∧ Qd H) ∨ ((Itz K a b).go i H ∧ ∃ Nx : Hp → Prop, (∀ H', Nx H' → ∃ m', m' < m ∧ W (i + 1) m' H') ∧ ∀ x H', (Itz K a b).yld i H x H' → g x (wipe σ vs) H' fun σ2 H2 => wipe σ2 vs = wipe σ vs ∧ tt σ2 H2 fun c H3 =>
        if c = true then te σ2 H3 fun y H4 => ∃ acc, H4 Dd = some (.lst acc) ∧ acc.length < sizeLine ∧ Nx (upd H4 Dd (.lst (acc ++ [y]))) else Nx H3) := by
  refine ⟨fun i m H => m = xs.length - i ∧ i ≤ xs.length ∧ Pv i H, ⟨xs.length, by simp, Nat.zero_le _, h0⟩, ?_⟩
  rintro i m H ⟨rfl, hi, p⟩
  obtain ⟨qa, qb⟩ := hq i H p
  by_cases e : i = xs.length
  · subst e
    exact .inl ⟨⟨xs, ys, qa, qb, .inl (Nat.le_refl _)⟩, hd H p⟩
  · have lt : i < xs.length := by omega
    have lt2 : i < ys.length := by omega
    refine .inr ⟨⟨xs, ys, xs[i], ys[i], qa, qb, List.getElem?_eq_getElem lt, List.getElem?_eq_getElem lt2⟩, Pv (i + 1), fun H2 q => ⟨xs.length - (i + 1), by omega, rfl, by omega, q⟩, ?_⟩
    rintro x H2 ⟨T, u, v, rfl, hT, rfl, hu, hv⟩
    exact hs i u v T H (hu xs qa) (hv ys qb) p hT
/-- a list of ints at a value -/
def LstAt (H : Hp) (v : V) (l : List Int) : Prop := ∃ a, v = .ref a ∧ H a = some (.lst (vi l))
theorem LstAt.same {H H' : Hp} {v : V} {l : List Int} (e : Same H H') (h : LstAt H v l) : LstAt H' v l := by
  obtain ⟨a, rfl, h⟩ := h
  exact ⟨a, rfl, e _ _ h⟩
theorem A2.at {α : Type} {R : V → α → Prop} : ∀ {vs : List V} {ds : List α} {i : Nat}, A2 R vs ds → i < ds.length → ∃ v d, vs[i]? = some v ∧ ds[i]? = some d ∧ R v d
  | v :: _, d :: _, 0, h, _ => ⟨v, d, rfl, rfl, h.1⟩
  | _ :: vs, _ :: ds, i + 1, h, k => A2.at (vs := vs) (ds := ds) (i := i) h.2 (Nat.lt_of_succ_lt_succ k)
  | _, [], _, _, k => absurd k (Nat.not_lt_zero _)
  | [], _ :: _, _, h, _ => h.elim
theorem A2.impV {α : Type} {R S : V → α → Prop} : ∀ {vs : List V} {ds : List α}, (∀ v d, v ∈ vs → R v d → S v d) → A2 R vs ds → A2 S vs ds
  | [], [], _, _ => trivial
  | v :: vs, _ :: _, f, h => ⟨f _ _ (List.mem_cons_self ..) h.1, A2.impV (fun u d hu => f u d (List.mem_cons_of_mem _ hu)) h.2⟩
  | [], _ :: _, _, h => h.elim
  | _ :: _, [], _, h => h.elim
/-- lists of lists compared -/
def pdL (l : List Int) : PyData := .list (pdI l)
theorem flatI (l : List Int) : Flat 1 (pdL l) := Flat.list fun _ _ => Flat.int
theorem eqvL (l m : List Int) : PyData.eqv (pdL l) (pdL m) = decide (l = m) := by
  simp only [pdL, PyData.eqv, eqv_i]
section
variable {K : PySem.W.Frag} {mg : Str → Option Value}
theorem dpL {H : Hp} {v : V} {l : List Int} (h : LstAt H v l) : Dp K H v (pdL l) := by
  obtain ⟨a, rfl, h⟩ := h
  exact .lst (SqL.of h) (dpI l)
theorem ne_lists {H : Hp} {a b : Addr} {us vs : List V} {ls : List (List Int)} {Q : VK} (h1 : SqL K H a us) (h2 : SqL K H b vs) (d1 : A2 (LstAt H) us ls) (d2 : A2 (LstAt H) vs ls) (q : Q (.bl false) H) : rNeD K (.ref a) (.ref b) H Q := by
  refine neD (d := .list (ls.map pdL)) (e := .list (ls.map pdL)) (.lst h1 (dp_map (fun _ _ h => dpL h) d1)) (.lst h2 (dp_map (fun _ _ h => dpL h) d2)) ((Flat.list fun x _ => flatI x).mono (by decide)) ((Flat.list fun x _ => flatI x).mono (by decide)) ?_
  have z : PyData.eqv (.list (ls.map pdL)) (.list (ls.map pdL)) = true := by
    simp only [PyData.eqv]
    rw [eqv_map eqvL]
    exact decide_eq_true rfl
  rw [z]
  exact q
def spLapart (T : Tx K mg) : Sp := fun vs H Q _ => ∃ (v u : V) (x y : List Int), vs = [v, u] ∧ LstAt H v x ∧ LstAt H u y ∧ x.length = y.length ∧ x.length ≤ 10 ∧ ∀ H', Same H H' → Q (.int (apart x y)) H'
def spLbelow (T : Tx K mg) : Sp := fun vs H Q _ => ∃ (s a : Addr) (x : List Int), vs = [.ref s, .ref a] ∧ StateAt H s ∧ H a = some (.lst (vi x)) ∧ a ≠ s ∧ x.length ≤ 10 ∧ (∀ i, i < x.length → 0 ≤ at0 x i ∧ at0 x i < 2 ^ 99) ∧
  ∀ (H' : Hp) (r : Addr) (y : List Int), H r = none → H' r = some (.lst (vi y)) → Below y x → (∀ i, i < y.length → 0 ≤ at0 y i) → StateAt H' s → Fr s H H' → Q (.ref r) H'
def spLallonce (T : Tx K mg) : Sp := fun vs H Q _ => ∃ (r l : Addr) (caps : List Int) (ds : List D) (us : List V) (sts : List (List Int)) (p : Int), vs = [.ref r, .ref l, .int p] ∧ RowAt T H r caps ds ∧ (∀ d ∈ ds, d.ok caps) ∧ SqL K H l us ∧ A2 (LstAt H) us sts ∧ (∀ st ∈ sts, Stand caps p st) ∧ sts.length ≤ 10 ∧ 1 ≤ p ∧ p < 2 ^ 62 ∧
  ∀ (H' : Hp) (q : Addr) (ws : List V), H q = none → H' q = some (.lst ws) → A2 (LstAt H') ws (sts.map (run caps p ds)) → Same H H' → Q (.ref q) H'
end
section
variable {P : Program} {w : World} {K : PySem.W.Frag} {mg : Str → Option Value} {base : Heap}
theorem okLapart (T : Tx K mg) : FnOk P w K mg base CX0 1 T.aLapart T.dLapart ["_law_one", "_law_other"] (spLapart T) := by
  refine T.fLapart.ok scLapart (fun vs H Q E h => ?_) (fun cdv A outer s H vs Q E hr h => ?_)
  · obtain ⟨v, u, x, y, rfl, _⟩ := h
    rfl
  · obtain ⟨v, u, x, y, rfl, ⟨a, rfl, ha⟩, ⟨b, rfl, hb⟩, hl, l10, hq⟩ := h
    refine ⟨_, (pss_one (ps_ret (pe_callB (cr_sum rfl) rfl T.nsum (by decide +kernel) (pa_cons (pe_lc (own := [("_law_mine", 2), ("_law_two", 3)]) (g := gTup K 2 (gCons (gName 2) (gCons (gName 3) gNil))) rfl scLapart.nd (pi_zip rfl T.nzip (pa_cons (pv 0) (pa_cons (pv 1) pa_nil))) (blkOk_by (own := [("_law_mine", 2), ("_law_two", 3)]) (N := ["_law_one", "_law_other", "_law_mine", "_law_two"]) (sc := defScope sLapart) (by decide +kernel)) (fun _ _ _ _ _ => (pg_tup rfl (pgs_cons (pg_name (i := 2) scLapart.nd rfl (by first | exact Or.inl rfl | exact Or.inr rfl)) (pgs_cons (pg_name (i := 3) scLapart.nd rfl (by first | exact Or.inl rfl | exact Or.inr rfl)) pgs_nil)))) (fun _ _ _ _ _ => pts_nil) (fun _ _ _ _ _ => (pe_callB call_abs rfl T.nabs (by decide +kernel) (pa_cons (pe_op op_sub (pv 3) (pv 2)) pa_nil)))) pa_nil)))), ?_⟩
    refine ⟨_, rfl, _, rfl, a, b, _, _, rfl, SqL.of ha, SqL.of hb, fun Dd hD => ?_⟩
    refine lc_zipK (K := K) (a := a) (b := b) (xs := vi x) (ys := vi y) (by rw [List.length_map, List.length_map, hl]) (fun i H' => H' Dd = some (.lst (vi ((difs x y).take i))) ∧ Same H H') ⟨upd_same, same_new hD⟩ (fun i H' h => ⟨h.2.seq (SqL.of ha), h.2.seq (SqL.of hb)⟩) ?_ ?_
    · rintro i x' y' T2 H' hx hy ⟨g1, sm⟩ hT
      obtain ⟨z, hz, rfl⟩ := vi_get hx
      obtain ⟨u, hu, rfl⟩ := vi_get hy
      have s2 : Same H' (upd H' T2 (.tup [.int z, .int u])) := same_new hT
      refine ⟨T2, _, rfl, SqT.of upd_same, rfl, _, _, rfl, _, _, rfl, rfl, rfl, ?_⟩
      have lt : i < x.length := (List.getElem?_eq_some_iff.mp hz).1
      refine ⟨_, rfl, _, rfl, _, _, rfl, rfl, _, rfl, _, s2 _ _ g1, Nat.lt_of_lt_of_le (by rw [List.length_map, List.length_take, difs_len hl]; omega : _ < 100) (by decide), ?_, same_mut (sm.trans s2) hD⟩
      have hd : (difs x y)[i]? = some ((u - z).natAbs : Int) := by
        unfold difs
        rw [List.getElem?_zipWith, hz, hu]
      have ab : (if u - z < 0 then -(u - z) else u - z) = ((u - z).natAbs : Int) := by
        split <;> omega
      rw [upd_same, List.take_add_one, hd]
      simp only [Option.toList, vi, List.map_append, List.map_cons, List.map_nil]
      rw [ab]
    · rintro H' ⟨g1, sm⟩
      rw [List.length_map, List.take_of_length_le (Nat.le_of_eq (difs_len hl))] at g1
      exact ⟨Dd, _, rfl, SqL.of g1, hq _ sm⟩
theorem okLbelow (T : Tx K mg) : FnOk P w K mg base CX0 2 T.aLbelow T.dLbelow ["_law_s", "_law_start"] (spLbelow T) := by
  refine T.fLbelow.ok scLbelow (fun vs H Q E h => ?_) (fun cdv A outer s H vs Q E hr h => ?_)
  · obtain ⟨s, a, x, rfl, _⟩ := h
    rfl
  · obtain ⟨s, a, x, rfl, hs, ha, as_, l10, hx, hq⟩ := h
    refine ⟨_, (pss_one (ps_ret (pe_lc (own := [("_law_amount", 2)]) rfl scLbelow.nd (pi_list (pv 1)) (blkOk_by (own := [("_law_amount", 2)]) (N := ["_law_s", "_law_start", "_law_amount"]) (sc := defScope sLbelow) (by decide +kernel)) (fun _ _ _ _ _ => (pg_name (i := 2) scLbelow.nd rfl (by first | exact Or.inl rfl | exact Or.inr rfl))) (fun _ _ _ _ _ => pts_nil) (fun _ _ _ _ _ => (pe_call (okLdigit T) (hr.mono (by decide)) rfl T.gLdigit T.fLdigit.kp T.bLdigit .nil pass0 (pa_cons (pv 0) (pa_cons (pe_op op_add (pv 2) pe_int) pa_nil))))))), ?_⟩
    refine ⟨_, rfl, a, rfl, ⟨_, SqL.of ha⟩, fun D1 hD1 => ?_⟩
    have Ds := hs.ne hD1
    have el : (vi x).length = x.length := List.length_map ..
    refine lc_list (K := K) (a := a) (xs := vi x) (fun i H' => ∃ y : List Int, H' D1 = some (.lst (vi y)) ∧ y.length = i ∧ (∀ k, k < i → 0 ≤ at0 y k ∧ at0 y k ≤ at0 x k) ∧ StateAt H' s ∧ Fr s H H') ⟨[], upd_same, rfl, (fun k h => absurd h (Nat.not_lt_zero _)), hs.new hD1, Fr.of (same_new hD1)⟩ (fun i H' _ ⟨_, _, _, _, _, e⟩ => e.sqL as_ (SqL.of ha)) ?_ ?_
    · rintro i y' H' hi ⟨y, k1, k2, k3, k4, k5⟩
      obtain ⟨z, hz, rfl⟩ := vi_get hi
      have lt : i < x.length := (List.getElem?_eq_some_iff.mp hz).1
      have ez := at0_of hz
      have bz := hx i lt
      refine ⟨rfl, _, rfl, _, rfl, _, _, rfl, rfl, s, _, rfl, k4, by omega, by omega, fun H2 q lq s2 f2 => ?_⟩
      refine ⟨_, f2 _ _ Ds k1, Nat.lt_of_lt_of_le (by rw [List.length_map]; omega : _ < 100) (by decide), y ++ [(q : Int)], ?_, by simp [k2], fun k hk => ?_, s2.mut Ds, fr_new (k5.trans f2) hD1⟩
      · rw [upd_same]
        simp [vi]
      · rw [at0_app, k2]
        by_cases e : k < i
        · rw [if_pos e]
          exact k3 k e
        · obtain rfl : k = i := by omega
          rw [if_neg (by omega), if_pos rfl]
          omega
    · rintro H' ⟨y, k1, k2, k3, k4, k5⟩
      rw [el] at k2 k3
      exact hq H' D1 y hD1 k1 ⟨k2, fun i hi => (k3 i (by omega)).2⟩ (fun i hi => (k3 i (by omega)).1) k4 k5
theorem okLallonce (T : Tx K mg) : FnOk P w K mg base CX0 4 T.aLallonce T.dLallonce ["_law_row_here", "_law_starts", "_law_share"] (spLallonce T) := by
  refine T.fLallonce.ok scLallonce (fun vs H Q E h => ?_) (fun cdv A outer s H vs Q E hr h => ?_)
  · obtain ⟨r, l, caps, ds, us, sts, p, rfl, _⟩ := h
    rfl
  · obtain ⟨r, l, caps, ds, us, sts, p, rfl, hR, ok, hl, hA, hst, l10, p1, p2, hq⟩ := h
    obtain ⟨mv, kb_parts⟩ := kbParts T
    refine ⟨_, (pss_one (ps_ret (pe_lc (own := [("_law_start", 3)]) rfl scLallonce.nd (pi_list (pv 1)) (blkOk_by (own := [("_law_start", 3)]) (N := ["_law_row_here", "_law_starts", "_law_share", "_law_start"]) (sc := defScope sLallonce) (by decide +kernel)) (fun _ _ _ _ _ => (pg_name (i := 3) scLallonce.nd rfl (by first | exact Or.inl rfl | exact Or.inr rfl))) (fun _ _ _ _ _ => pts_nil) (fun _ _ _ _ _ => (pe_callN (okbehind T) (hr.mono (by decide)) rfl T.gbehind T.fbehind.kp kb_parts pass0 (pa_cons (pv 0) (pa_cons (pv 3) pa_nil)) (pk_cons (pv 2) pk_nil)))))), ?_⟩
    refine ⟨_, rfl, l, rfl, ⟨_, hl⟩, fun D1 hD1 => ?_⟩
    refine lc_list (K := K) (a := l) (xs := us) (fun i H' => ∃ ws : List V, H' D1 = some (.lst ws) ∧ A2 (LstAt H') ws ((sts.take i).map (run caps p ds)) ∧ (∀ v ∈ ws, v ≠ .ref D1) ∧ Same H H') ⟨[], upd_same, by simp [A2], (fun v h => by cases h), same_new hD1⟩ (fun i H' _ ⟨_, _, _, _, e⟩ => e.seq hl) ?_ ?_
    · rintro i y H' hi ⟨ws, k1, k2, k3, sm⟩
      obtain ⟨st, hs, hy⟩ := hA.get hi
      obtain ⟨a, rfl, ha⟩ := hy.same sm
      have wl := k2.len
      rw [List.length_map, List.length_take] at wl
      refine ⟨rfl, _, rfl, _, rfl, _, rfl, rfl, rfl, r, a, ds, caps, st, p, 1, rfl, hR.same sm, ok, .inl (SqL.of ha), p1, p2, by decide, hst st (List.mem_of_getElem? hs), fun H2 q hq0 hq1 s2 => ?_⟩
      have gD := s2 _ _ k1
      have qD : q ≠ D1 := fun z => by rw [z, k1] at hq0; cases hq0
      have mono : ∀ v m, v ∈ ws ∨ v = .ref q → LstAt H2 v m → v ≠ .ref D1 → LstAt (upd H2 D1 (.lst (ws ++ [V.ref q]))) v m := fun v m _ ⟨b, e, hb⟩ n => ⟨b, e, by rw [upd_ne (fun z => n (by rw [e, z]))]; exact hb⟩
      refine ⟨_, gD, Nat.lt_of_lt_of_le (by omega : ws.length < 100) (by decide), ws ++ [V.ref q], upd_same, ?_, fun v hv => ?_, same_mut (sm.trans s2) hD1⟩
      · rw [List.take_add_one, hs, List.map_append]
        refine A2.app (A2.impV (fun v m hv k => mono v m (.inl hv) (k.same s2) (k3 v hv)) k2) ⟨mono _ _ (.inr rfl) ⟨q, rfl, hq1⟩ (fun z => qD (by injection z)), trivial⟩
      · rcases List.mem_append.mp hv with h | h
        · exact k3 v h
        · obtain rfl : v = .ref q := by simpa using h
          exact fun z => qD (by injection z)
    · rintro H' ⟨ws, k1, k2, k3, sm⟩
      rw [hA.len, List.take_length] at k2
      exact hq H' D1 ws hD1 k1 k2 sm
end
end Kp

namespace Kp
open PySem PySem.Spec PyProof.Rows L2 KpR
section
variable {K : PySem.W.Frag} {mg : Str → Option Value}
def spLgoneon (T : Tx K mg) : Sp := fun vs H Q _ => ∃ (r c f l : Addr) (caps : List Int) (ds : List D) (ts us : List V) (x y z : List Int) (p : Int), vs = [.ref r, .ref c, .ref f, .ref l, .int p] ∧ RowAt T H r caps ds ∧ (∀ d ∈ ds, d.ok caps) ∧ Caps caps ∧ H c = some (.lst (vi caps)) ∧ H f = some (.lst ts) ∧ A2 (FactAt H) ts ds ∧
  H l = some (.lst us) ∧ A2 (LstAt H) us [x, y, z] ∧ Stand caps p x ∧ Stand caps p y ∧ Stand caps p z ∧ Below x y ∧ 1 ≤ p ∧ p < 2 ^ 62 ∧
  ∀ (H' : Hp) (q : Addr) (ws : List V), H' q = some (.lst ws) → A2 (LstAt H') ws [runs caps p ds 9 x, runs caps p ds 9 y, runs caps p ds 9 z] → Same H H' → Q (.ref q) H'
end
section
variable {P : Program} {w : World} {K : PySem.W.Frag} {mg : Str → Option Value} {base : Heap}
theorem okLgoneon (T : Tx K mg) : FnOk P w K mg base CX0 5 T.aLgoneon T.dLgoneon ["_law_row_here", "_law_sizes", "_law_deeds", "_law_starts", "_law_share"] (spLgoneon T) := by
  refine T.fLgoneon.ok scLgoneon (fun vs H Q E h => ?_) (fun cdv A outer s H vs Q E hr h => ?_)
  · obtain ⟨r, c, f, l, caps, ds, ts, us, x, y, z, p, rfl, _⟩ := h
    rfl
  · obtain ⟨r, c, f, l, caps, ds, ts, us, x, y, z, p, rfl, hR, ok, hC, hc, hf, hF, hl, hA, sx, sy, sz, bxy, p1, p2, hq⟩ := h
    refine ⟨_, (pss_cons (ps_for PassesOwn.never rfl (pi_range1 rfl T.nrange (pa_cons pe_int pa_nil)) (pg_name (i := 5) scLgoneon.nd rfl (by first | exact Or.inl rfl | exact Or.inr rfl)) (pss_cons (ps_set (i := 6) scLgoneon.nd rfl (by first | exact Or.inl rfl | exact Or.inr rfl) (pe_call (okLallonce T) (hr.mono (by decide)) rfl T.gLallonce T.fLallonce.kp T.bLallonce .nil pass0 (pa_cons (pv 0) (pa_cons (pv 3) (pa_cons (pv 4) pa_nil)))))
      (pss_cons (ps_if (pt_cmpR (op_neD hr.units) (pv 6) (pe_lc (own := [("_law_start", 7)]) rfl scLgoneon.nd (pi_list (pv 3)) (blkOk_by (own := [("_law_start", 7)]) (N := ["_law_row_here", "_law_sizes", "_law_deeds", "_law_starts", "_law_share", "_law_turn", "_law_later", "_law_start", "_law_k", "_law_one", "_law_other"]) (sc := defScope sLgoneon) (by decide +kernel)) (fun _ _ _ _ _ => (pg_name (i := 7) scLgoneon.nd rfl (by first | exact Or.inl rfl | exact Or.inr rfl))) (fun _ _ _ _ _ => pts_nil) (fun _ _ _ _ _ => (pe_call (okLonce T) (hr.mono (by decide)) rfl T.gLonce T.fLonce.kp T.bLonce .nil pass0 (pa_cons (pv 1) (pa_cons (pv 2) (pa_cons (pv 7) (pa_cons (pv 4) pa_nil))))))) (nomark _)) (pss_one (ps_ret pe_non)) pss_nil)
      (pss_cons (ps_if (pt_cmpR (op_neD hr.units) (pe_lc (own := [("_law_k", 8)]) rfl scLgoneon.nd (pi_range1 rfl T.nrange (pa_cons (pe_callB call_len_seq rfl T.nlen PySem.boot_len (pa_cons (pv 1) pa_nil)) pa_nil)) (blkOk_by (own := [("_law_k", 8)]) (N := ["_law_row_here", "_law_sizes", "_law_deeds", "_law_starts", "_law_share", "_law_turn", "_law_later", "_law_start", "_law_k", "_law_one", "_law_other"]) (sc := defScope sLgoneon) (by decide +kernel)) (fun _ _ _ _ _ => (pg_name (i := 8) scLgoneon.nd rfl (by first | exact Or.inl rfl | exact Or.inr rfl))) (fun _ _ _ _ _ => (pts_one (pt_cmpR op_gt (pe_ix (r := rIxL K) ix_list (pe_ix (r := rIxL K) ix_list (pv 6) pe_int (fun _ _ => rfl)) (pv 8) (fun _ _ => rfl)) (pe_ix (r := rIxL K) ix_list (pe_ix (r := rIxL K) ix_list (pv 6) pe_int (fun _ _ => rfl)) (pv 8) (fun _ _ => rfl)) (nomark _)))) (fun _ _ _ _ _ => (pv 8))) (pe_lst pa_nil) (nomark _)) (pss_one (ps_ret pe_non)) pss_nil)
      (pss_cons (ps_for PassesOwn.never rfl (pi_range1 rfl T.nrange (pa_cons pe_int pa_nil)) (pg_name (i := 8) scLgoneon.nd rfl (by first | exact Or.inl rfl | exact Or.inr rfl)) (pss_cons (ps_par (i := 9) (j := 10) rfl scLgoneon.nd rfl rfl (by decide) rfl rfl (pa_cons (pv 8) (pa_cons (pe_op op_mod (pe_op op_add (pv 8) pe_int) pe_int) pa_nil)) rfl)
      (pss_one (ps_if (pt_cmpR op_gt (pe_call (okLapart T) (hr.mono (by decide)) rfl T.gLapart T.fLapart.kp T.bLapart .nil pass0 (pa_cons (pe_ix (r := rIxL K) ix_list (pv 6) (pv 9) (fun _ _ => rfl)) (pa_cons (pe_ix (r := rIxL K) ix_list (pv 6) (pv 10) (fun _ _ => rfl)) pa_nil))) (pe_call (okLapart T) (hr.mono (by decide)) rfl T.gLapart T.fLapart.kp T.bLapart .nil pass0 (pa_cons (pe_ix (r := rIxL K) ix_list (pv 3) (pv 9) (fun _ _ => rfl)) (pa_cons (pe_ix (r := rIxL K) ix_list (pv 3) (pv 10) (fun _ _ => rfl)) pa_nil))) (nomark _)) (pss_one (ps_ret pe_non)) pss_nil))))
      (pss_one (ps_set (i := 3) scLgoneon.nd rfl (by first | exact Or.inl rfl | exact Or.inr rfl) (pv 6))))))))
      (pss_one (ps_ret (pv 3)))), ?_⟩
    have c6 := hC.l6
    refine ⟨9, rfl, by decide, by decide, ?_⟩
    refine for_range (lo := 0) (n := (9 : Int).toNat) (fun i σ H' => ∃ (v5 v6 v7 v8 v9 v10 : Option V) (l : Addr) (us : List V) (x' y' z' : List Int), σ = [some (.ref r), some (.ref c), some (.ref f), some (.ref l), some (.int p), v5, v6, v7, v8, v9, v10] ∧ H' l = some (.lst us) ∧ A2 (LstAt H') us [x', y', z'] ∧
        x' = runs caps p ds i x ∧ y' = runs caps p ds i y ∧ z' = runs caps p ds i z ∧ Stand caps p x' ∧ Stand caps p y' ∧ Stand caps p z' ∧ Below x' y' ∧ Same H H')
      ⟨none, none, none, none, none, none, l, us, x, y, z, rfl, hl, hA, rfl, rfl, rfl, sx, sy, sz, bxy, Same.refl _⟩ ?_ ?_
    · rintro i σ H1 hi ⟨v5, v6, v7, v8, v9, v10, l, us, x', y', z', rfl, hl1, hA1, ex, ey, ez, sx', sy', sz', bxy', s1⟩
      have xl := sx'.len
      have yl := sy'.len
      have zl := sz'.len
      refine ⟨_, rfl, _, rfl, _, rfl, r, l, caps, ds, us, [x', y', z'], p, rfl, hR.same s1, ok, SqL.of hl1, hA1, ?_, (show 3 ≤ 10 by decide), p1, p2, fun H2 q ws q0 hq1 hA2 s2 => ?_⟩
      · intro st hst
        rcases List.mem_cons.mp hst with rfl | h
        · exact sx'
        · rcases List.mem_cons.mp h with rfl | h
          · exact sy'
          · rcases List.mem_cons.mp h with rfl | h
            · exact sz'
            · cases h
      have s12 := s1.trans s2
      have hl2 := s2 _ _ hl1
      have hA12 := A2.mono (fun _ _ k => LstAt.same s2 k) hA1
      -- against the law's own walk
      refine ⟨_, rfl, _, rfl, l, rfl, ⟨_, SqL.of hl2⟩, fun D1 hD1 => ?_⟩
      refine lc_list (K := K) (a := l) (xs := us) (fun i H' => ∃ ws : List V, H' D1 = some (.lst ws) ∧ A2 (LstAt H') ws (([x', y', z'].take i).map (run caps p ds)) ∧ (∀ v ∈ ws, v ≠ .ref D1) ∧ Same H2 H') ⟨[], upd_same, by simp [A2], (fun v h => by cases h), same_new hD1⟩ (fun i H' _ ⟨_, _, _, _, e⟩ => e.seq (SqL.of hl2)) ?_ ?_
      · rintro i2 y2 H' hi2 ⟨ws2, k1, k2, k3, sm⟩
        obtain ⟨st, hs, hy⟩ := hA12.get hi2
        obtain ⟨a, rfl, ha⟩ := hy.same sm
        have wl := k2.len
        have ll : st.length = caps.length := by
          rcases List.mem_cons.mp (List.mem_of_getElem? hs) with h | h
          · rw [h, xl]
          · rcases List.mem_cons.mp h with h | h
            · rw [h, yl]
            · rcases List.mem_cons.mp h with h | h
              · rw [h, zl]
              · cases h
        rw [List.length_map, List.length_take] at wl
        have wl3 : ws2.length ≤ 3 := by
          have : [x', y', z'].length = 3 := rfl
          omega
        refine ⟨rfl, _, rfl, _, rfl, _, rfl, _, rfl, c, f, a, caps, st, ts, ds, p, rfl, (s12.trans sm) _ _ hc, (s12.trans sm) _ _ hf, A2.mono (fun _ _ k => FactAt.same (s12.trans sm) k) hF, ok, SqL.of ha, ll, p1, p2, fun H3 q3 hq0 hq3 s3 => ?_⟩
        have gD := s3 _ _ k1
        have qD : q3 ≠ D1 := fun z => by rw [z, k1] at hq0; cases hq0
        have mono : ∀ v m, v ∈ ws2 ∨ v = .ref q3 → LstAt H3 v m → v ≠ .ref D1 → LstAt (upd H3 D1 (.lst (ws2 ++ [V.ref q3]))) v m := fun v m _ ⟨b, e, hb⟩ n => ⟨b, e, by rw [upd_ne (fun z => n (by rw [e, z]))]; exact hb⟩
        refine ⟨_, gD, Nat.lt_of_lt_of_le (by omega : ws2.length < 100) (by decide), ws2 ++ [V.ref q3], upd_same, ?_, fun v hv => ?_, same_mut (sm.trans s3) hD1⟩
        · rw [List.take_add_one, hs, List.map_append]
          refine A2.app (A2.impV (fun v m hv k => mono v m (.inl hv) (k.same s3) (k3 v hv)) k2) ⟨mono _ _ (.inr rfl) ⟨q3, rfl, hq3⟩ (fun z => qD (by injection z)), trivial⟩
        · rcases List.mem_append.mp hv with h | h
          · exact k3 v h
          · obtain rfl : v = .ref q3 := by simpa using h
            exact fun z => qD (by injection z)
      · rintro H3 ⟨ws2, k1, k2, k3, s3⟩
        rw [hA12.len] at k2
        refine ne_lists (SqL.of (s3 _ _ hq1)) (SqL.of k1) (A2.mono (fun _ _ k => LstAt.same s3 k) hA2) k2 ⟨_, rfl, ifF rfl ?_⟩
        have s13 := s12.trans s3
        have hq3 := s3 _ _ hq1
        have hB := A2.mono (fun _ _ k => LstAt.same s3 k) hA2
        have hA3 := A2.mono (fun _ _ k => LstAt.same s3 k) hA12
        have hl3 := s3 _ _ hl2
        clear k1 k2 k3
        -- nowhere more
        obtain ⟨w0, w1, w2, rfl, b0, b1, b2⟩ : ∃ w0 w1 w2, ws = [w0, w1, w2] ∧ LstAt H3 w0 (run caps p ds x') ∧ LstAt H3 w1 (run caps p ds y') ∧ LstAt H3 w2 (run caps p ds z') := match ws, hB with
          | [w0, w1, w2], ⟨b0, b1, b2, _⟩ => ⟨w0, w1, w2, rfl, b0, b1, b2⟩
        obtain ⟨u0, u1, u2, rfl, d0, d1, d2⟩ : ∃ u0 u1 u2, us = [u0, u1, u2] ∧ LstAt H3 u0 x' ∧ LstAt H3 u1 y' ∧ LstAt H3 u2 z' := match us, hA3 with
          | [u0, u1, u2], ⟨d0, d1, d2, _⟩ => ⟨u0, u1, u2, rfl, d0, d1, d2⟩
        have rb := run_below (ds := ds) p1 sx' sy' ok bxy'
        have rx : (run caps p ds x').length = caps.length := by rw [run_len, xl]
        have ry : (run caps p ds y').length = caps.length := by rw [run_len, yl]
        have rz : (run caps p ds z').length = caps.length := by rw [run_len, zl]
        have el : (vi caps).length = caps.length := List.length_map ..
        refine ⟨_, rfl, c, _, rfl, .inl (SqL.of (s13 _ _ hc)), _, rfl, by rw [el]; omega, by rw [el]; omega, fun D2 hD2 => ?_⟩
        refine lc_range (lo := 0) (n := (((vi caps).length : Nat) : Int).toNat) (fun i H' => H' D2 = some (.lst (vi [])) ∧ Same H3 H') ⟨upd_same, same_new hD2⟩ ?_ ?_
        · rintro i3 H' hi3 ⟨k1, k2⟩
          rw [el, Int.toNat_natCast] at hi3
          have e0 : (0 + (i3 : Int)) = (i3 : Int) := by omega
          obtain ⟨a0, rfl, h0⟩ := b0.same k2
          obtain ⟨a1, rfl, h1⟩ := b1.same k2
          have i0 : atI (vi (run caps p ds x')) (0 + (i3 : Int)) = some (.int (at0 (run caps p ds x') i3)) := by rw [e0]; exact vi_at (by omega)
          have i1 : atI (vi (run caps p ds y')) (0 + (i3 : Int)) = some (.int (at0 (run caps p ds y') i3)) := by rw [e0]; exact vi_at (by omega)
          have le := rb.2 i3 (by omega)
          refine ⟨rfl, _, rfl, q, _, _, _, rfl, rfl, SqL.of (k2 _ _ hq3), rfl, _, rfl, a0, _, _, _, rfl, rfl, SqL.of h0, i0, _, rfl, q, _, _, V.ref a1, rfl, rfl, SqL.of (k2 _ _ hq3), rfl, _, rfl, a1, _, _, _, rfl, rfl, SqL.of h1, i1, _, _, rfl, rfl, _, rfl, ifF (decide_eq_false (by omega)) ⟨k1, k2⟩⟩
        · rintro H4 ⟨k1, s4⟩
          refine ⟨(by show 0 ≤ sizeLine; decide), fun e0 he0 => ?_⟩
          have s5 := s4.trans (same_new (o := HO.lst []) he0)
          refine ne_ints (l := []) (m := []) (SqL.of ((same_new he0) _ _ k1)) (SqL.of upd_same) rfl ⟨_, rfl, ifF rfl ?_⟩
          generalize upd H4 e0 (.lst []) = H5 at s5 ⊢
          have t0 := b0.same s5
          have t1 := b1.same s5
          have t2 := b2.same s5
          have o0 := d0.same s5
          have o1 := d1.same s5
          have o2 := d2.same s5
          -- never farther
          refine ⟨3, rfl, by decide, by decide, ?_⟩
          refine for_range (lo := 0) (n := (3 : Int).toNat) (fun j σ H' => ∃ (v8 v9 v10 : Option V), σ = [some (.ref r), some (.ref c), some (.ref f), some (.ref l), some (.int p), some (.int (0 + (i : Int))), some (.ref q), v7, v8, v9, v10] ∧ Same H5 H')
            ⟨v8, v9, v10, rfl, Same.refl _⟩ ?_ ?_
          · rintro j σ H6 hj ⟨v8, v9, v10, rfl, s6⟩
            have q6 := s6 _ _ (s5 _ _ hq3)
            have l6 := s6 _ _ (s5 _ _ hl3)
            have j3 : j = 0 ∨ j = 1 ∨ j = 2 := by
              have : j < 3 := hj
              omega
            have g01 := run_apart (ds := ds) p1 sx' sy' ok
            have g12 := run_apart (ds := ds) p1 sy' sz' ok
            have g20 := run_apart (ds := ds) p1 sz' sx' ok
            have n6 : caps.length ≤ 10 := by omega
            rcases j3 with rfl | rfl | rfl
            · refine ⟨_, rfl, _, rfl, _, _, rfl, rfl, _, _, rfl, rfl, (by show (0 : Int) < 3; decide), _, _, rfl, ?_⟩
              refine ⟨_, rfl, _, rfl, q, _, _, w0, rfl, rfl, SqL.of q6, rfl, _, rfl, _, rfl, q, _, _, w1, rfl, rfl, SqL.of q6, rfl, w0, w1, _, _, rfl, t0.same s6, t1.same s6, by omega, by omega, fun H7 s7 => ?_⟩
              refine ⟨_, rfl, _, rfl, l, _, _, u0, rfl, rfl, SqL.of (s7 _ _ l6), rfl, _, rfl, _, rfl, l, _, _, u1, rfl, rfl, SqL.of (s7 _ _ l6), rfl, u0, u1, _, _, rfl, (o0.same s6).same s7, (o1.same s6).same s7, by omega, by omega, fun H8 s8 => ?_⟩
              exact ⟨_, _, rfl, rfl, _, rfl, ifF (decide_eq_false (by omega)) ⟨_, _, _, rfl, (s6.trans s7).trans s8⟩⟩
            · refine ⟨_, rfl, _, rfl, _, _, rfl, rfl, _, _, rfl, rfl, (by show (0 : Int) < 3; decide), _, _, rfl, ?_⟩
              refine ⟨_, rfl, _, rfl, q, _, _, w1, rfl, rfl, SqL.of q6, rfl, _, rfl, _, rfl, q, _, _, w2, rfl, rfl, SqL.of q6, rfl, w1, w2, _, _, rfl, t1.same s6, t2.same s6, by omega, by omega, fun H7 s7 => ?_⟩
              refine ⟨_, rfl, _, rfl, l, _, _, u1, rfl, rfl, SqL.of (s7 _ _ l6), rfl, _, rfl, _, rfl, l, _, _, u2, rfl, rfl, SqL.of (s7 _ _ l6), rfl, u1, u2, _, _, rfl, (o1.same s6).same s7, (o2.same s6).same s7, by omega, by omega, fun H8 s8 => ?_⟩
              exact ⟨_, _, rfl, rfl, _, rfl, ifF (decide_eq_false (by omega)) ⟨_, _, _, rfl, (s6.trans s7).trans s8⟩⟩
            · refine ⟨_, rfl, _, rfl, _, _, rfl, rfl, _, _, rfl, rfl, (by show (0 : Int) < 3; decide), _, _, rfl, ?_⟩
              refine ⟨_, rfl, _, rfl, q, _, _, w2, rfl, rfl, SqL.of q6, rfl, _, rfl, _, rfl, q, _, _, w0, rfl, rfl, SqL.of q6, rfl, w2, w0, _, _, rfl, t2.same s6, t0.same s6, by omega, by omega, fun H7 s7 => ?_⟩
              refine ⟨_, rfl, _, rfl, l, _, _, u2, rfl, rfl, SqL.of (s7 _ _ l6), rfl, _, rfl, _, rfl, l, _, _, u0, rfl, rfl, SqL.of (s7 _ _ l6), rfl, u2, u0, _, _, rfl, (o2.same s6).same s7, (o0.same s6).same s7, by omega, by omega, fun H8 s8 => ?_⟩
              exact ⟨_, _, rfl, rfl, _, rfl, ifF (decide_eq_false (by omega)) ⟨_, _, _, rfl, (s6.trans s7).trans s8⟩⟩
          · rintro σ H6 ⟨v8, v9, v10, rfl, s6⟩
            refine ⟨_, rfl, _, _, _, _, _, _, q, _, run caps p ds x', run caps p ds y', run caps p ds z', rfl, s6 _ _ (s5 _ _ hq3), ⟨t0.same s6, t1.same s6, t2.same s6, trivial⟩, by rw [ex]; rfl, by rw [ey]; rfl, by rw [ez]; rfl, run_stand p1 sx' ok, run_stand p1 sy' ok, run_stand p1 sz' ok, rb, (s13.trans s5).trans s6⟩
    · rintro σ H1 ⟨v5, v6, v7, v8, v9, v10, l, us, x', y', z', rfl, hl1, hA1, ex, ey, ez, _, _, _, _, s1⟩
      subst ex ey ez
      exact ⟨_, rfl, hq H1 l us hl1 hA1 s1⟩
end
end Kp

namespace Kp
open PySem PySem.Spec PyProof.Rows L2 KpR
theorem textFrom_le : ∀ (ts : List Str) (k : Nat) (acc : Str), (textFrom k acc ts).length ≤ acc.length + piled ts
  | [], _, _ => Nat.le_add_right _ _
  | t :: r, k, acc => by
    have h := textFrom_le r (k + 1) (acc ++ (if k > 0 then ", " else "" : String) ++ t)
    have e : (acc ++ (if k > 0 then ", " else "" : String) ++ t).length = acc.length + (if k > 0 then 2 else 0) + t.length := by
      rw [strLen_append, strLen_append]
      split <;> rfl
    rw [e] at h
    show (textFrom (k + 1) _ r).length ≤ _
    rw [piled_cons]
    have : (if k > 0 then 2 else 0 : Nat) ≤ 2 := by split <;> omega
    omega
theorem listText_le (ts : List Str) : (listText ts).length ≤ 2 + piled ts := by
  have h := textFrom_le ts 0 "["
  have e : (listText ts).length = (textFrom 0 "[" ts).length + 1 := by
    unfold listText
    rw [strLen_append]
    rfl
  have e1 : (Str.length ("[" : String)) = 1 := rfl
  rw [e1] at h
  omega
theorem piled_le {m : Nat} : ∀ ds : List PyData, (∀ d ∈ ds, d.shown.length ≤ m) → piled (PyData.shownAll ds) ≤ ds.length * (m + 2)
  | [], _ => by simp [PyData.shownAll, piled]
  | d :: ds, h => by
    have ih := piled_le ds fun e he => h e (List.mem_cons_of_mem _ he)
    have hd := h d (List.mem_cons_self ..)
    show piled (d.shown :: PyData.shownAll ds) ≤ _
    rw [piled_cons, List.length_cons, Nat.add_mul]
    omega
theorem shown_list {m : Nat} {ds : List PyData} (h : ∀ d ∈ ds, d.shown.length ≤ m) : (PyData.list ds).shown.length ≤ 2 + ds.length * (m + 2) := by
  simp only [PyData.shown]
  exact Nat.le_trans (listText_le _) (Nat.add_le_add_left (piled_le ds h) 2)
theorem log_le {i : Int} (h : i.natAbs < 2 ^ 99) : i.natAbs.log2 < 99 := by
  by_cases h0 : i.natAbs = 0
  · rw [h0]
    decide
  · exact (Nat.log2_lt h0).mpr h
theorem shown_int {i : Int} (h : i.natAbs < 2 ^ 99) : (PyData.int i).shown.length ≤ 100 := by
  simp only [PyData.shown]
  have e := int_text_length_le (k := 99) (by decide) (log_le h)
  show (Str.ofString (toString i)).length ≤ 100
  rw [PySem.ofString_length]
  exact e
theorem all_show : ∀ {ds : List PyData}, (∀ d ∈ ds, d.showable = true) → PyData.showableAll ds = true
  | [], _ => by simp [PyData.showableAll]
  | d :: ds, h => by
    simp only [PyData.showableAll, h d (List.mem_cons_self ..), all_show fun e he => h e (List.mem_cons_of_mem _ he), Bool.and_self]
theorem all_nod : ∀ {ds : List PyData}, (∀ d ∈ ds, d.hasDict = false) → PyData.hasDictAll ds = false
  | [], _ => by simp [PyData.hasDictAll]
  | d :: ds, h => by
    simp only [PyData.hasDictAll, h d (List.mem_cons_self ..), all_nod fun e he => h e (List.mem_cons_of_mem _ he), Bool.or_self]
theorem repr_lists {K : PySem.W.Frag} {H : Hp} {a : Addr} {us : List V} {ls : List (List Int)} {Q : VK} (h1 : SqL K H a us) (d1 : A2 (LstAt H) us ls) (hb : ∀ l ∈ ls, l.length ≤ 6 ∧ ∀ x ∈ l, x.natAbs < 2 ^ 99) (h10 : ls.length ≤ 10) (q : Q (.str (PyData.list (ls.map pdL)).shown) H) : rRepr K [.ref a] H Q := by
  refine ⟨a, .list (ls.map pdL), rfl, .lst h1 (dp_map (fun _ _ h => dpL h) d1), ?_, ?_, Nat.le_trans ((Flat.list (n := 1) fun d hd => ?_).dep) (by decide), ?_, q⟩
  · simp only [PyData.showable]
    refine all_show fun d hd => ?_
    obtain ⟨l, hl, rfl⟩ := List.mem_map.mp hd
    simp only [pdL, PyData.showable]
    refine all_show fun e he => ?_
    obtain ⟨x, hx, rfl⟩ := List.mem_map.mp he
    simp only [PyData.showable]
    exact decide_eq_true (Nat.lt_trans (log_le ((hb l hl).2 x hx)) (by decide))
  · simp only [PyData.hasDict]
    refine all_nod fun d hd => ?_
    obtain ⟨l, hl, rfl⟩ := List.mem_map.mp hd
    simp only [pdL, PyData.hasDict]
    refine all_nod fun e he => ?_
    obtain ⟨x, hx, rfl⟩ := List.mem_map.mp he
    simp only [PyData.hasDict]
  · exact flatI _
  · refine Nat.le_trans (shown_list (m := 614) fun d hd => ?_) ?_
    · obtain ⟨l, hl, rfl⟩ := List.mem_map.mp hd
      refine Nat.le_trans (shown_list (m := 100) fun e he => ?_) ?_
      · obtain ⟨x, hx, rfl⟩ := List.mem_map.mp he
        exact shown_int ((hb l hl).2 x hx)
      · have := (hb l hl).1
        unfold pdI
        rw [List.length_map]
        omega
    · rw [List.length_map, sizeLine_eq]
      omega
end Kp

namespace Kp
open PySem PySem.Spec PyProof.Rows L2 KpR
def D.clamp : D → D
  | .put a k => .put a (if 1000000000000 < k then 1000000000000 else k)
  | .draw a k => .draw a (if 1000000000000 < k then 1000000000000 else k)
  | d => d
theorem clamp_ok {caps : List Int} {d : D} (h : d.ok1 caps) : d.clamp.ok caps := by
  cases d with
  | put a k =>
    refine ⟨h.1, ?_, ?_⟩
    · have := h.2
      split <;> omega
    · split <;> omega
  | draw a k =>
    refine ⟨h.1, ?_, ?_⟩
    · have := h.2
      split <;> omega
    · split <;> omega
  | pour a b => exact h
  | change a b => exact h
theorem clamp_fact {caps : List Int} {d : D} (h : d.ok1 caps) (h6 : caps.length ≤ 6) : d.clamp.word = d.word ∧ d.clamp.fst = d.fst ∧ d.clamp.last = (if (10 : Int) ^ (12 : Int).toNat < d.last then (10 : Int) ^ (12 : Int).toNat else d.last) := by
  have e : (10 : Int) ^ (12 : Int).toNat = 1000000000000 := by decide
  rw [e]
  cases d with
  | put a k => exact ⟨rfl, rfl, rfl⟩
  | draw a k => exact ⟨rfl, rfl, rfl⟩
  | pour a b =>
    refine ⟨rfl, rfl, ?_⟩
    have := h.2.1
    show (b : Int) = if (1000000000000 : Int) < (b : Int) then 1000000000000 else (b : Int)
    rw [if_neg (by omega)]
  | change a b =>
    refine ⟨rfl, rfl, ?_⟩
    have := h.2.1
    show (b : Int) = if (1000000000000 : Int) < (b : Int) then 1000000000000 else (b : Int)
    rw [if_neg (by omega)]
section
variable {K : PySem.W.Frag} {mg : Str → Option Value}
theorem kbTP (T : Tx K mg) : ∃ mv : List Value, KBn K T.dbehind ["row", "start", "parts", "times"] 2 ["times", "parts"] (fun us ws => us ++ (ws.drop 1 ++ ws.take 1)) (fun vs zs => vs ++ (zs.drop 1 ++ zs.take 1)) :=
  T.fbehind.kbinds0 2 ["times", "parts"] [] (fun vs mz zs => vs ++ (zs.drop 1 ++ zs.take 1)) (by simp) (by simp) (fun r1 r2 r3 => r1.append ((r3.drop 1).append (r3.take 1)))
    (fun Dd doc pm an cdv ct us mv ws h1 h2 h3 => match us, mv, ws, h1, h2, h3 with
      | [_, _], [], [_, _], _, _, _ => rfl)
def spLaw (K : PySem.W.Frag) : Sp := fun vs H Q _ => ∃ (a : Addr) (ns : List Int), vs = [.ref a] ∧ SqL K H a (ns.map V.int) ∧ ns.length ≤ 63 ∧ ∀ H', Q (.bl true) H'
def splaw (T : Tx K mg) : Sp := spLaw K
end
section
variable {P : Program} {w : World} {K : PySem.W.Frag} {mg : Str → Option Value} {base : Heap}
theorem oklaw (T : Tx K mg) : RunC P w K mg base CX0 T.alaw T.dlaw ["_law_script"] (splaw T) := by
  refine KpR.Fun.okC (k := 6) ⟨rfl, by decide, by decide⟩ T.flaw sclaw (fun vs H Q E h => ?_) (fun cdv outer s H vs Q E hr h => ?_)
  · obtain ⟨a, ns, rfl, _⟩ := h
    rfl
  · obtain ⟨a, ns, rfl, hS, hlen, hq⟩ := h
    obtain ⟨mv1, kb_times_parts⟩ := kbTP T
    obtain ⟨mv2, kb_parts_times⟩ := kbBoth T
    refine ⟨_, (pss_cons (ps_for PassesOwn.never rfl (pi_list (pe_slice sl_list (pe_op op_catR (pv 0) (pe_lst (pa_cons pe_int pa_nil))) po_none (po_some pe_int))) (pg_name (i := 1) sclaw.nd rfl (by first | exact Or.inl rfl | exact Or.inr rfl)) (pss_cons (ps_set (i := 2) sclaw.nd rfl (by first | exact Or.inl rfl | exact Or.inr rfl) (pe_call (okLstate T) (hr.mono (by decide)) rfl T.gLstate T.fLstate.kp T.bLstate .nil pass0 (pa_cons (pv 1) pa_nil)))
      (pss_cons (ps_asg (pe_call (okLhouse T) (hr.mono (by decide)) rfl T.gLhouse T.fLhouse.kp T.bLhouse .nil pass0 (pa_cons (pv 2) (pa_cons (pe_op op_add pe_int (pe_call (okLdigit T) (hr.mono (by decide)) rfl T.gLdigit T.fLdigit.kp T.bLdigit .nil pass0 (pa_cons (pv 2) (pa_cons pe_int pa_nil)))) (pa_cons (pe_ix (r := rIxL K) ix_list (pe_lst (pa_cons pe_int (pa_cons (pe_op op_pow pe_int pe_int) pa_nil))) (pe_call (okLdigit T) (hr.mono (by decide)) rfl T.gLdigit T.fLdigit.kp T.bLdigit .nil pass0 (pa_cons (pv 2) (pa_cons pe_int pa_nil))) (fun _ _ => rfl)) (pa_cons (pe_op op_add pe_int (pe_call (okLdigit T) (hr.mono (by decide)) rfl T.gLdigit T.fLdigit.kp T.bLdigit .nil pass0 (pa_cons (pv 2) (pa_cons pe_int pa_nil)))) pa_nil))))) (pg_tup rfl (pgs_cons (pg_name (i := 3) sclaw.nd rfl (by first | exact Or.inl rfl | exact Or.inr rfl)) (pgs_cons (pg_name (i := 4) sclaw.nd rfl (by first | exact Or.inl rfl | exact Or.inr rfl)) pgs_nil))))
      (pss_cons (ps_setLc (i := 4) (own := [("_law_word", 5), ("_law_a", 6), ("_law_last", 7)]) (g := gTup K 3 (gCons (gName 5) (gCons (gName 6) (gCons (gName 7) gNil)))) rfl sclaw.nd rfl rfl (sw_true rfl rfl rfl (by decide +kernel)) (pi_list (pv 4)) (blkOk_by (own := [("_law_word", 5), ("_law_a", 6), ("_law_last", 7)]) (N := ["_law_script", "_law_number", "_law_s", "_law_sizes", "_law_deeds", "_law_word", "_law_a", "_law_last", "_law_row_here", "_law_share", "_law_greater", "_law_size", "_law_starts", "_law_kept", "_law_start", "_law_due", "_law_amount", "_law_one"]) (sc := defScope slaw) (by decide +kernel)) (fun _ _ _ _ _ => (pg_tup rfl (pgs_cons (pg_name (i := 5) sclaw.nd rfl (by first | exact Or.inl rfl | exact Or.inr rfl)) (pgs_cons (pg_name (i := 6) sclaw.nd rfl (by first | exact Or.inl rfl | exact Or.inr rfl)) (pgs_cons (pg_name (i := 7) sclaw.nd rfl (by first | exact Or.inl rfl | exact Or.inr rfl)) pgs_nil))))) (fun _ _ _ _ _ => pts_nil) (fun _ _ _ _ _ => (pe_tup (pa_cons (pv 5) (pa_cons (pv 6) (pa_cons (pe_callB (call_min2 rfl) rfl T.nmin (by decide +kernel) (pa_cons (pv 7) (pa_cons (pe_op op_pow pe_int pe_int) pa_nil))) pa_nil))))))
      (pss_cons (ps_set (i := 8) sclaw.nd rfl (by first | exact Or.inl rfl | exact Or.inr rfl) (pe_call (okLrow T) (hr.mono (by decide)) rfl T.gLrow T.fLrow.kp T.bLrow .nil pass0 (pa_cons (pv 3) (pa_cons (pv 4) pa_nil))))
      (pss_cons (ps_set (i := 9) sclaw.nd rfl (by first | exact Or.inl rfl | exact Or.inr rfl) (pe_op op_add pe_int (pe_call (okLdigit T) (hr.mono (by decide)) rfl T.gLdigit T.fLdigit.kp T.bLdigit .nil pass0 (pa_cons (pv 2) (pa_cons pe_int pa_nil)))))
      (pss_cons (ps_setLc (i := 10) (own := [("_law_size", 11)]) rfl sclaw.nd rfl rfl (sw_true rfl rfl rfl (by decide +kernel)) (pi_list (pv 3)) (blkOk_by (own := [("_law_size", 11)]) (N := ["_law_script", "_law_number", "_law_s", "_law_sizes", "_law_deeds", "_law_word", "_law_a", "_law_last", "_law_row_here", "_law_share", "_law_greater", "_law_size", "_law_starts", "_law_kept", "_law_start", "_law_due", "_law_amount", "_law_one"]) (sc := defScope slaw) (by decide +kernel)) (fun _ _ _ _ _ => (pg_name (i := 11) sclaw.nd rfl (by first | exact Or.inl rfl | exact Or.inr rfl))) (fun _ _ _ _ _ => pts_nil) (fun _ _ _ _ _ => (pe_call (okLdigit T) (hr.mono (by decide)) rfl T.gLdigit T.fLdigit.kp T.bLdigit .nil pass0 (pa_cons (pv 2) (pa_cons (pe_op op_add (pe_op op_mul (pv 11) (pv 9)) pe_int) pa_nil)))))
      (pss_cons (ps_set (i := 12) sclaw.nd rfl (by first | exact Or.inl rfl | exact Or.inr rfl) (pe_lst (pa_cons (pe_call (okLbelow T) (hr.mono (by decide)) rfl T.gLbelow T.fLbelow.kp T.bLbelow .nil pass0 (pa_cons (pv 2) (pa_cons (pv 10) pa_nil))) (pa_cons (pv 10) (pa_cons (pe_lc (own := [("_law_size", 11)]) rfl sclaw.nd (pi_list (pv 3)) (blkOk_by (own := [("_law_size", 11)]) (N := ["_law_script", "_law_number", "_law_s", "_law_sizes", "_law_deeds", "_law_word", "_law_a", "_law_last", "_law_row_here", "_law_share", "_law_greater", "_law_size", "_law_starts", "_law_kept", "_law_start", "_law_due", "_law_amount", "_law_one"]) (sc := defScope slaw) (by decide +kernel)) (fun _ _ _ _ _ => (pg_name (i := 11) sclaw.nd rfl (by first | exact Or.inl rfl | exact Or.inr rfl))) (fun _ _ _ _ _ => pts_nil) (fun _ _ _ _ _ => (pe_call (okLdigit T) (hr.mono (by decide)) rfl T.gLdigit T.fLdigit.kp T.bLdigit .nil pass0 (pa_cons (pv 2) (pa_cons (pe_op op_add (pe_op op_mul (pv 11) (pv 9)) pe_int) pa_nil))))) pa_nil)))))
      (pss_cons (ps_set (i := 13) sclaw.nd rfl (by first | exact Or.inl rfl | exact Or.inr rfl) (pe_callB (cr_repr rfl hr.units) rfl T.nrepr (by decide +kernel) (pa_cons (pv 12) pa_nil)))
      (pss_cons (ps_set (i := 7) sclaw.nd rfl (by first | exact Or.inl rfl | exact Or.inr rfl) (pe_call (okLgoneon T) (hr.mono (by decide)) rfl T.gLgoneon T.fLgoneon.kp T.bLgoneon .nil pass0 (pa_cons (pv 8) (pa_cons (pv 3) (pa_cons (pv 4) (pa_cons (pv 12) (pa_cons (pv 9) pa_nil)))))))
      (pss_cons (ps_if (PW.pt (pw_or (pt_cmpR op_isN (pv 7) pe_non (nomark _)) (pw_or1 (pt_cmpR op_ne (pe_callB (cr_repr rfl hr.units) rfl T.nrepr (by decide +kernel) (pa_cons (pv 12) pa_nil)) (pv 13) (nomark _))))) (pss_one (ps_ret pe_bl)) pss_nil)
      (pss_one (ps_for PassesOwn.never rfl (pi_zip rfl T.nzip (pa_cons (pv 12) (pa_cons (pv 7) pa_nil))) (pg_tup rfl (pgs_cons (pg_name (i := 14) sclaw.nd rfl (by first | exact Or.inl rfl | exact Or.inr rfl)) (pgs_cons (pg_name (i := 15) sclaw.nd rfl (by first | exact Or.inl rfl | exact Or.inr rfl)) pgs_nil))) (pss_cons (ps_if (pt_cmpR (op_neD hr.units) (pe_callN (okbehind T) (hr.mono (by decide)) rfl T.gbehind T.fbehind.kp kb_times_parts pass0 (pa_cons (pv 8) (pa_cons (pe_callTy call_tuple_of rfl T.ntuple (by decide +kernel) (pa_cons (pv 14) pa_nil)) pa_nil)) (pk_cons pe_int (pk_cons (pv 9) pk_nil))) (pv 15) (nomark _)) (pss_one (ps_ret pe_bl)) pss_nil)
      (pss_cons (ps_if (pt_cmpR (op_neD hr.units) (pe_callN (okbehind T) (hr.mono (by decide)) rfl T.gbehind T.fbehind.kp kb_times_parts pass0 (pa_cons (pv 8) (pa_cons (pv 14) pa_nil)) (pk_cons pe_int (pk_cons (pv 9) pk_nil))) (pv 14) (nomark _)) (pss_one (ps_ret pe_bl)) pss_nil)
      (pss_one (ps_if (pt_cmpR (op_neD hr.units) (pe_callN (okbehind T) (hr.mono (by decide)) rfl T.gbehind T.fbehind.kp kb_parts_times pass0 (pa_cons (pv 8) (pa_cons (pe_lc (own := [("_law_amount", 16)]) rfl sclaw.nd (pi_list (pv 14)) (blkOk_by (own := [("_law_amount", 16)]) (N := ["_law_script", "_law_number", "_law_s", "_law_sizes", "_law_deeds", "_law_word", "_law_a", "_law_last", "_law_row_here", "_law_share", "_law_greater", "_law_size", "_law_starts", "_law_kept", "_law_start", "_law_due", "_law_amount", "_law_one"]) (sc := defScope slaw) (by decide +kernel)) (fun _ _ _ _ _ => (pg_name (i := 16) sclaw.nd rfl (by first | exact Or.inl rfl | exact Or.inr rfl))) (fun _ _ _ _ _ => pts_nil) (fun _ _ _ _ _ => (pe_op op_mul pe_int (pv 16)))) pa_nil)) (pk_cons (pe_op op_mul pe_int (pv 9)) (pk_cons pe_int pk_nil))) (pe_lc (own := [("_law_one", 17)]) rfl sclaw.nd (pi_list (pv 15)) (blkOk_by (own := [("_law_one", 17)]) (N := ["_law_script", "_law_number", "_law_s", "_law_sizes", "_law_deeds", "_law_word", "_law_a", "_law_last", "_law_row_here", "_law_share", "_law_greater", "_law_size", "_law_starts", "_law_kept", "_law_start", "_law_due", "_law_amount", "_law_one"]) (sc := defScope slaw) (by decide +kernel)) (fun _ _ _ _ _ => (pg_name (i := 17) sclaw.nd rfl (by first | exact Or.inl rfl | exact Or.inr rfl))) (fun _ _ _ _ _ => pts_nil) (fun _ _ _ _ _ => (pe_op op_mul pe_int (pv 17)))) (nomark _)) (pss_one (ps_ret pe_bl)) pss_nil)))))))))))))))))
      (pss_one (ps_ret pe_bl))), ?_⟩
    refine ⟨_, rfl, (by show 1 ≤ sizeLine; decide), fun z hz => ?_⟩
    have s1 : Same H (upd H z (.lst [V.int 0])) := same_new hz
    refine ⟨a, z, _, _, rfl, rfl, s1.seq hS, SqL.of upd_same, ?_, fun q hq0 => ?_⟩
    · rw [List.length_map]
      exact Nat.le_trans (by simp; omega : ns.length + [V.int 0].length ≤ 100) (by decide)
    have s2 := s1.trans (same_new (o := .lst (ns.map V.int ++ [V.int 0])) hq0)
    refine ⟨_, rfl, q, _, rfl, SqL.of upd_same, fun l hl => ?_⟩
    rw [show (6 : Int) = ((6 : Nat) : Int) from rfl, cut_take]
    have s3 := s2.trans (same_new (o := .lst ((ns.map V.int ++ [V.int 0]).take 6)) hl)
    refine ⟨l, rfl, ⟨_, SqL.of upd_same⟩, ?_⟩
    have allI : ∀ y ∈ (ns.map V.int ++ [V.int 0]).take 6, ∃ n, y = V.int n := fun y hy => by
      rcases List.mem_append.mp (List.mem_of_mem_take hy) with k | k
      · obtain ⟨n, _, e⟩ := List.mem_map.mp k
        exact ⟨n, e.symm⟩
      · exact ⟨0, by simpa using k⟩
    generalize hxs : (ns.map V.int ++ [V.int 0]).take 6 = xs at *
    generalize hHl : upd (upd (upd H z (.lst [V.int 0])) q (.lst (ns.map V.int ++ [V.int 0]))) l (.lst xs) = Hl at *
    have gl : Hl l = some (.lst xs) := by rw [← hHl]; exact upd_same
    refine for_list (K := K) (a := l) (xs := xs) (fun i σ H' => ∃ v1 v2 v3 v4 v5 v6 v7 v8 v9 v10 v11 v12 v13 v14 v15 v16 v17 : Option V, σ = [some (.ref a), v1, v2, v3, v4, v5, v6, v7, v8, v9, v10, v11, v12, v13, v14, v15, v16, v17] ∧ Same Hl H') ⟨none, none, none, none, none, none, none, none, none, none, none, none, none, none, none, none, none, rfl, Same.refl _⟩ (fun i σ H' _ ⟨_, _, _, _, _, _, _, _, _, _, _, _, _, _, _, _, _, _, e⟩ => e.seq (SqL.of gl)) ?_ ?_
    · rintro i y σ H0 hi ⟨v1, v2, v3, v4, v5, v6, v7, v8, v9, v10, v11, v12, v13, v14, v15, v16, v17, rfl, sm0⟩
      obtain ⟨n, rfl⟩ := allI y (List.mem_of_getElem? hi)
      refine ⟨_, rfl, n, rfl, fun H2 s s0 w2 s2' => ?_⟩
      have sme : ∀ {G : Hp}, Fr s H0 G → Same H0 G := fun e b o q => e b o (ne_of_none q s0) q
      refine ⟨_, rfl, _, rfl, s, 5, rfl, w2, by decide, by decide, fun H3 x3 lx3 w3 f3 => ⟨_, _, rfl, rfl, ?_⟩⟩
      refine ⟨_, _, rfl, rfl, ⟨by decide, by decide, by decide⟩, (by show 2 ≤ sizeLine; decide), fun l3 hl3 => ?_⟩
      have ls3 := w3.ne hl3
      refine ⟨_, rfl, s, 2, rfl, w3.new hl3, by decide, by decide, fun H4 x4 lx4 w4 f4 => ?_⟩
      refine pickL (xs := [9, 10 ^ (12 : Int).toNat]) (SqL.of (f4 _ _ ls3 upd_same)) (by show x4 < 2; omega) ?_
      obtain ⟨mm, em, mm1, mm2⟩ : ∃ mm : Int, at0 [9, 10 ^ (12 : Int).toNat] x4 = mm ∧ 1 ≤ mm ∧ mm ≤ 1000000000000 := by
        have : x4 = 0 ∨ x4 = 1 := by omega
        rcases this with rfl | rfl
        · exact ⟨9, rfl, by decide, by decide⟩
        · exact ⟨_, rfl, by decide, by decide⟩
      rw [em]
      refine ⟨_, rfl, s, 12, rfl, w4, by decide, by decide, fun H5 x5 lx5 w5 f5 => ⟨_, _, rfl, rfl, ?_⟩⟩
      have f05 : Fr s H0 H5 := (((Fr.of s2').trans f3).trans (Fr.of (same_new hl3))).trans (f4.trans f5)
      refine ⟨s, _, _, 1 + x5, rfl, w5, by omega, by omega, mm1, mm2, by omega, fun H6 p c f caps ts0 ds0 p0 hp c0 hc hC l5 f0 hf0 hA0 hl0 ok0 w6 f6 => ?_⟩
      have cs := w5.ne c0
      have fs0 := w5.ne f0
      refine ⟨p, _, rfl, SqT.of hp, rfl, _, _, rfl, _, _, rfl, rfl, ?_⟩
      have f06 := f05.trans f6
      have c6 := hC.l6
      -- no deed of more than may be
      refine ⟨_, rfl, f, rfl, ⟨_, SqL.of hf0⟩, fun D1 hD1 => ?_⟩
      refine lc_list (K := K) (a := f) (xs := ts0) (fun i H' => ∃ ts : List V, H' D1 = some (.lst ts) ∧ A2 (FactAt H') ts ((ds0.take i).map D.clamp) ∧ Same H6 H') ⟨[], upd_same, by simp [A2], same_new hD1⟩ (fun i H' _ ⟨_, _, _, e⟩ => e.seq (SqL.of hf0)) ?_ ?_
      · rintro i2 y2 H' hi2 ⟨ts, k1, k2, sm⟩
        obtain ⟨d, hd, hy⟩ := hA0.get hi2
        obtain ⟨t, rfl, ht⟩ := hy.same sm
        obtain ⟨e1, e2, e3⟩ := clamp_fact (ok0 d (List.mem_of_getElem? hd)) c6
        have tl := k2.len
        rw [List.length_map, List.length_take] at tl
        refine ⟨t, _, rfl, SqT.of ht, rfl, _, _, rfl, _, _, rfl, _, _, rfl, rfl, rfl, ?_⟩
        refine ⟨_, rfl, _, rfl, _, rfl, _, _, rfl, rfl, ⟨by decide, by decide, by decide⟩, _, _, rfl, (by show 3 ≤ sizeLine; decide), fun q hq0 => ?_⟩
        have sq : Same H' (upd H' q (.tup [V.str d.word, V.int d.fst, V.int (if (10 : Int) ^ (12 : Int).toNat < d.last then (10 : Int) ^ (12 : Int).toNat else d.last)])) := same_new hq0
        have gD := sq _ _ k1
        have hd20 : ds0.length ≤ 20 := by omega
        refine ⟨ts, gD, Nat.lt_of_lt_of_le (by omega : ts.length < 100) (by decide), ts ++ [V.ref q], upd_same, ?_, same_mut (sm.trans sq) hD1⟩
        rw [List.take_add_one, hd, List.map_append]
        have bl : ∀ G : Hp, G D1 = some (.lst ts) → Fr D1 G (upd G D1 (.lst (ts ++ [V.ref q]))) := fun G _ => fr_mut (Fr.refl _ _)
        refine A2.app (A2.mono (fun _ _ k => FactAt.fr (bl _ gD) gD bl_l (k.same sq)) k2) ⟨FactAt.fr (bl _ gD) gD bl_l ⟨q, rfl, ?_⟩, trivial⟩
        rw [e1, e2, e3]
        exact upd_same
      · rintro H7 ⟨ts, k1, k2, s7⟩
        have hF7 : A2 (FactAt H7) ts (ds0.map D.clamp) := by
          rw [hA0.len, List.take_length] at k2
          exact k2
        clear k2
        have okd : ∀ d ∈ ds0.map D.clamp, d.ok caps := fun d hd => by
          obtain ⟨e, he, rfl⟩ := List.mem_map.mp hd
          exact clamp_ok (ok0 e he)
        have dl : (ds0.map D.clamp).length ≤ 20 := by
          rw [List.length_map]
          omega
        generalize ds0.map D.clamp = ds at hF7 okd dl
        have hc7 := s7 _ _ hc
        have w7 := w6.same s7
        refine ⟨_, rfl, _, rfl, c, D1, caps, ts, ds, rfl, hc7, hC, k1, hF7, dl, okd, fun H8 r r0 hR s8 => ?_⟩
        have w8 := w7.same s8
        have f08 := (f06.trans (Fr.of s7)).trans (Fr.of s8)
        refine ⟨_, rfl, s, 12, rfl, w8, by decide, by decide, fun H9 x9 lx9 w9 f9 => ⟨_, _, rfl, rfl, ?_⟩⟩
        obtain ⟨o8, ho8, hb8⟩ := w8.ex
        have hR9 : RowAt T H9 r caps ds := RowAt.fr f9 ho8 hb8 hR
        have hc9 := f9 _ _ cs (s8 _ _ hc7)
        have D1s := w6.ne hD1
        obtain ⟨pp, hpp, p1, p12⟩ : ∃ pp : Int, 1 + (x9 : Int) = pp ∧ 1 ≤ pp ∧ pp ≤ 12 := ⟨_, rfl, by omega, by omega⟩
        show gName 9 (V.int (1 + (x9 : Int))) _ _ _
        rw [hpp]
        have f09 := f08.trans f9
        have hD19 := f9 _ _ D1s (s8 _ _ k1)
        have hF9 : A2 (FactAt H9) ts ds := A2.mono (fun _ _ k => FactAt.fr f9 ho8 hb8 (k.same s8)) hF7
        have el : (vi caps).length = caps.length := List.length_map ..
        have mx : ∀ i, i < caps.length → 0 ≤ at0 caps i * pp ∧ at0 caps i * pp ≤ 12000000000000 := fun i hi => by
          have q1 := hC.lo i hi
          have q2 := hC.hi i hi
          exact ⟨Int.mul_nonneg (by omega) (by omega), Int.le_trans (Int.mul_le_mul q2 p12 (by omega) (by decide)) (by decide)⟩
        have p62 : pp < 2 ^ 62 := by omega
        -- the greater start
        refine ⟨_, rfl, c, rfl, ⟨_, SqL.of hc9⟩, fun D2 hD2 => ?_⟩
        have D2s := w9.ne hD2
        refine lc_list (K := K) (a := c) (xs := vi caps) (fun i H' => ∃ y : List Int, H' D2 = some (.lst (vi y)) ∧ y.length = i ∧ Part caps pp y ∧ StateAt H' s ∧ Fr s H9 H') ⟨[], upd_same, rfl, Part.nil, w9.new hD2, Fr.of (same_new hD2)⟩ (fun i H' _ ⟨_, _, _, _, _, e⟩ => e.sqL cs (SqL.of hc9)) ?_ ?_
        · rintro i3 y' H' hi3 ⟨y, q1, q2, q3, q4, q5⟩
          obtain ⟨z, hz, rfl⟩ := vi_get hi3
          have lt : i3 < caps.length := (List.getElem?_eq_some_iff.mp hz).1
          have ez := at0_of hz
          have mz := mx i3 lt
          rw [ez] at mz
          refine ⟨rfl, _, rfl, _, rfl, _, rfl, _, _, rfl, rfl, .inr (mulP p1 p62), _, _, rfl, rfl, s, z * pp + 1, rfl, q4, by omega, by omega, fun HA v lv wA fA => ?_⟩
          refine ⟨_, fA _ _ D2s q1, Nat.lt_of_lt_of_le (by rw [List.length_map]; omega : _ < 100) (by decide), y ++ [(v : Int)], ?_, by simp [q2], q3.app (by omega) (by rw [q2, ez]; omega), wA.mut D2s, fr_new (q5.trans fA) hD2⟩
          rw [upd_same]
          simp [vi]
        · rintro HB ⟨g, q1, q2, q3, wB, fB⟩
          rw [el] at q2
          have sg : Stand caps pp g := q3.stand q2
          have gb : ∀ i, i < g.length → 0 ≤ at0 g i ∧ at0 g i < 2 ^ 99 := fun i hi => by
            have e1 := sg.lo i (by omega)
            have e2 := sg.hi i (by omega)
            have e3 := mx i (by omega)
            constructor <;> omega
          have gl0 := sg.len
          have l6 : g.length ≤ 6 := by omega
          -- the lesser one
          refine ⟨_, rfl, _, rfl, s, D2, g, rfl, wB, q1, D2s, by omega, gb, fun HC b y b0 hb hBe ypos wC fC => ?_⟩
          have bs := wB.ne b0
          have sy : Stand caps pp y := ⟨by rw [hBe.1]; exact gl0, fun i hi => ypos i (by rw [hBe.1]; omega), fun i hi => Int.le_trans (hBe.2 i (by rw [hBe.1]; omega)) (sg.hi i hi)⟩
          have fC9 := fB.trans fC
          have hcC := fC9 _ _ cs hc9
          have hgC := fC _ _ D2s q1
          -- the third one
          refine ⟨_, rfl, _, rfl, c, rfl, ⟨_, SqL.of hcC⟩, fun D3 hD3 => ?_⟩
          have D3s := wC.ne hD3
          refine lc_list (K := K) (a := c) (xs := vi caps) (fun i H' => ∃ y : List Int, H' D3 = some (.lst (vi y)) ∧ y.length = i ∧ Part caps pp y ∧ StateAt H' s ∧ Fr s HC H') ⟨[], upd_same, rfl, Part.nil, wC.new hD3, Fr.of (same_new hD3)⟩ (fun i H' _ ⟨_, _, _, _, _, e⟩ => e.sqL cs (SqL.of hcC)) ?_ ?_
          · rintro i3 y' H' hi3 ⟨y, q1, q2, q3, q4, q5⟩
            obtain ⟨z, hz, rfl⟩ := vi_get hi3
            have lt : i3 < caps.length := (List.getElem?_eq_some_iff.mp hz).1
            have ez := at0_of hz
            have mz := mx i3 lt
            rw [ez] at mz
            refine ⟨rfl, _, rfl, _, rfl, _, rfl, _, _, rfl, rfl, .inr (mulP p1 p62), _, _, rfl, rfl, s, z * pp + 1, rfl, q4, by omega, by omega, fun HA v lv wA fA => ?_⟩
            refine ⟨_, fA _ _ D3s q1, Nat.lt_of_lt_of_le (by rw [List.length_map]; omega : _ < 100) (by decide), y ++ [(v : Int)], ?_, by simp [q2], q3.app (by omega) (by rw [q2, ez]; omega), wA.mut D3s, fr_new (q5.trans fA) hD3⟩
            rw [upd_same]
            simp [vi]
          · rintro HD ⟨g3, r1, r2, r3, wD, fD⟩
            rw [el] at r2
            have s3 : Stand caps pp g3 := r3.stand r2
            refine ⟨(by show 3 ≤ sizeLine; decide), fun l4 hl4 => ?_⟩
            have sE := same_new (o := HO.lst [V.ref b, V.ref D2, V.ref D3]) hl4
            have wE := wD.new (o := HO.lst [V.ref b, V.ref D2, V.ref D3]) hl4
            have hbE := sE _ _ (fD _ _ bs hb)
            have hgE := sE _ _ (fD _ _ D2s hgC)
            have h3E := sE _ _ r1
            have hl4E : (upd HD l4 (HO.lst [V.ref b, V.ref D2, V.ref D3])) l4 = some (.lst [V.ref b, V.ref D2, V.ref D3]) := upd_same
            have f9E := (fC9.trans fD).trans (Fr.of sE)
            generalize upd HD l4 (HO.lst [V.ref b, V.ref D2, V.ref D3]) = HE at *
            have dE : A2 (LstAt HE) [V.ref b, V.ref D2, V.ref D3] [y, g, g3] := ⟨⟨b, rfl, hbE⟩, ⟨D2, rfl, hgE⟩, ⟨D3, rfl, h3E⟩, trivial⟩
            have sm3 : ∀ l ∈ [y, g, g3], l.length ≤ 6 ∧ ∀ x ∈ l, x.natAbs < 2 ^ 99 := by
              have one : ∀ l, Stand caps pp l → l.length ≤ 6 ∧ ∀ x ∈ l, x.natAbs < 2 ^ 99 := fun l hs => ⟨by have := hs.len; omega, fun x hx => by
                obtain ⟨i, hi, e⟩ := List.getElem_of_mem hx
                have e1 := at0_of (List.getElem?_eq_getElem hi)
                rw [e] at e1
                have := hs.len
                have e2 := hs.lo i (by omega)
                have e3 := hs.hi i (by omega)
                have e4 := mx i (by omega)
                omega⟩
              intro l hl
              rcases List.mem_cons.mp hl with rfl | h
              · exact one _ sy
              · rcases List.mem_cons.mp h with rfl | h
                · exact one _ sg
                · rcases List.mem_cons.mp h with rfl | h
                  · exact one _ s3
                  · cases h
            obtain ⟨o9, ho9, hb9⟩ := w9.ex
            have hRE : RowAt T HE r caps ds := RowAt.fr f9E ho9 hb9 hR9
            have hFE : A2 (FactAt HE) ts ds := A2.mono (fun _ _ k => FactAt.fr f9E ho9 hb9 k) hF9
            have hcE := f9E _ _ cs hc9
            have hD1E := f9E _ _ D1s hD19
            have fE : Fr s H0 HE := f09.trans f9E
            have sE0 : Same H0 HE := fun b o q => fE b o (ne_of_none q s0) q
            clear hA0 ok0 hR hR9 hF7 hF9 q1 q3 r1 r3 hb hgC hcC hl0 fB fC fD fC9 f9E fE f06 f08 f09 ho8 hb8 ho9 hb9 k1 hp hc hf0 w6 w7 w8 w9 wB wC wD wE sE
            -- kept
            refine ⟨_, rfl, ?_⟩
            dsimp only [tNil]
            show rRepr K [V.ref l4] HE _
            refine repr_lists (SqL.of hl4E) dE sm3 (show 3 ≤ 10 by decide) ?_
            generalize htx : (PyData.list ([y, g, g3].map pdL)).shown = txt
            refine ⟨_, rfl, _, rfl, _, rfl, _, rfl, _, rfl, r, c, D1, l4, caps, ds, ts, _, y, g, g3, pp, rfl, hRE, okd, hC, hcE, hD1E, hFE, hl4E, dE, sy, sg, s3, hBe, p1, p62, fun HF q ws hq1 hws sF => ?_⟩
            have hl4F := sF _ _ hl4E
            have dF := A2.mono (fun _ _ k => LstAt.same sF k) dE
            refine ⟨_, rfl, rfl, _, rfl, ifF (by simp) ?_⟩
            refine ⟨_, rfl, ?_⟩
            dsimp only [tNil]
            show rRepr K [V.ref l4] HF _
            refine repr_lists (SqL.of hl4F) dF sm3 (show 3 ≤ 10 by decide) ?_
            rw [htx]
            refine ⟨_, rfl, rfl, _, rfl, ifF (by simp) ?_⟩
            have hwM : A2 (LstAt HF) ws ([y, g, g3].map (runs caps pp ds 9)) := hws
            have hRF := hRE.same sF
            have sF0 := sE0.trans sF
            clear htx hws dE hbE hgE h3E hl4E hFE hcE hD1E hRE
            refine ⟨_, rfl, _, rfl, l4, q, _, _, rfl, SqL.of hl4F, SqL.of hq1, ?_⟩
            refine RZ.for_zipL (K := K) (a := l4) (b := q) (by rw [dF.len, hwM.len, List.length_map]) (fun i σ H' => ∃ (v14 v15 v16 v17 : Option V), σ = [some (.ref a), some (.int n), some (.ref s), some (.ref c), some (.ref D1), v5, v6, some (.ref q), some (.ref r), some (.int pp), some (.ref D2), v11, some (.ref l4), some (.str txt), v14, v15, v16, v17] ∧ Same HF H')
              ⟨v14, v15, v16, v17, rfl, Same.refl _⟩ (fun i σ H' ⟨_, _, _, _, _, e⟩ => ⟨e.seq (SqL.of hl4F), e.seq (SqL.of hq1)⟩) ?_ ?_
            · rintro i4 x' y' T4 σ HG hx4 hy4 ⟨v14, v15, v16, v17, rfl, sG⟩ hT4
              obtain ⟨st, hst, hxs⟩ := dF.get hx4
              obtain ⟨due, hdu, hys⟩ := hwM.get hy4
              rw [List.getElem?_map, hst] at hdu
              obtain rfl : runs caps pp ds 9 st = due := by simpa using hdu
              have sst : Stand caps pp st := by
                rcases List.mem_cons.mp (List.mem_of_getElem? hst) with h | h
                · rw [h]
                  exact sy
                · rcases List.mem_cons.mp h with h | h
                  · rw [h]
                    exact sg
                  · rcases List.mem_cons.mp h with h | h
                    · rw [h]
                      exact s3
                    · cases h
              have sT : Same HG (upd HG T4 (.tup [x', y'])) := same_new hT4
              refine ⟨T4, _, rfl, SqT.of upd_same, rfl, ?_⟩
              generalize upd HG T4 (.tup [x', y']) = HI at *
              have sI := sG.trans sT
              obtain ⟨A, rfl, hA⟩ := hxs.same sI
              obtain ⟨B, rfl, hB⟩ := hys.same sI
              have hRI := hRF.same sI
              clear hxs hys hx4 hy4 hT4 hst hdu
              have stl := sst.len
              have rl : (runs caps pp ds 9 st).length = st.length := runs_len
              -- a tuple, nine times
              refine ⟨_, _, rfl, _, _, rfl, rfl, ?_⟩
              refine ⟨_, rfl, _, rfl, A, _, rfl, .inl ⟨SqL.of hA, fun t5 ht5 => ?_⟩⟩
              have s5 := same_new (o := HO.tup (vi st)) ht5
              refine ⟨_, rfl, rfl, rfl, r, t5, ds, caps, st, pp, 9, rfl, hRI.same s5, okd, .inr (SqT.of upd_same), p1, p62, by decide, sst, fun HJ q9 q90 hq9 s9 => ?_⟩
              have sJ := s5.trans s9
              refine ⟨_, rfl, ne_ints (SqL.of hq9) (SqL.of (sJ _ _ hB)) rfl ⟨_, rfl, ifF rfl ?_⟩⟩
              have hAJ := sJ _ _ hA
              -- no time
              refine ⟨_, rfl, _, rfl, _, rfl, rfl, rfl, r, A, ds, caps, st, pp, 0, rfl, hRI.same sJ, okd, .inl (SqL.of hAJ), p1, p62, by decide, sst, fun HL q8 q80 hq8 s8 => ?_⟩
              refine ⟨_, rfl, ne_ints (SqL.of hq8) (SqL.of (s8 _ _ hAJ)) rfl ⟨_, rfl, ifF rfl ?_⟩⟩
              have sL := sJ.trans s8
              have hAL := sL _ _ hA
              have hBL := sL _ _ hB
              have hRL := hRI.same sL
              -- in three times as many parts
              refine ⟨_, rfl, _, rfl, A, rfl, ⟨_, SqL.of hAL⟩, fun D5 hD5 => ?_⟩
              refine lc_list (K := K) (a := A) (xs := vi (st)) (fun i H' => H' D5 = some (.lst (vi ((mulL 3 (st)).take i))) ∧ Same HL H') ⟨upd_same, same_new hD5⟩ (fun i H' _ ⟨_, e⟩ => e.seq (SqL.of hAL)) ?_ ?_
              · rintro i5 y5 H' hi5 ⟨k1, k2⟩
                obtain ⟨z, hz, rfl⟩ := vi_get hi5
                have lt : i5 < (st).length := (List.getElem?_eq_some_iff.mp hz).1
                refine ⟨rfl, _, rfl, _, _, rfl, rfl, .inl ⟨by decide, by decide⟩, _, k1, Nat.lt_of_lt_of_le (by rw [List.length_map, List.length_take]; omega : _ < 100) (by decide), ?_, same_mut k2 hD5⟩
                rw [upd_same, List.take_add_one]
                have e : (mulL 3 (st))[i5]? = some (3 * z) := by
                  unfold mulL
                  rw [List.getElem?_map, hz]
                  simp [Int.mul_comm]
                rw [e]
                simp [vi]
              rintro HM ⟨k5, sM⟩
              have vl : (vi st).length = (mulL 3 st).length := by
                unfold mulL
                rw [List.length_map, List.length_map]
              rw [vl, List.take_length] at k5
              have st3 : Stand caps (3 * pp) (mulL 3 st) := by
                rw [Int.mul_comm]
                exact stand_fine (by decide) sst
              refine ⟨_, rfl, _, _, rfl, rfl, .inl ⟨by decide, by decide⟩, rfl, rfl, r, D5, ds, caps, mulL 3 st, 3 * pp, 9, rfl, hRL.same sM, okd, .inl (SqL.of k5), by omega, by omega, by decide, st3, fun HN q7 q70 hq7 s7' => ?_⟩
              have hBN := s7' _ _ (sM _ _ hBL)
              refine ⟨_, rfl, B, rfl, ⟨_, SqL.of hBN⟩, fun D6 hD6 => ?_⟩
              refine lc_list (K := K) (a := B) (xs := vi (runs caps pp ds 9 st)) (fun i H' => H' D6 = some (.lst (vi ((mulL 3 (runs caps pp ds 9 st)).take i))) ∧ Same HN H') ⟨upd_same, same_new hD6⟩ (fun i H' _ ⟨_, e⟩ => e.seq (SqL.of hBN)) ?_ ?_
              · rintro i5 y5 H' hi5 ⟨k1, k2⟩
                obtain ⟨z, hz, rfl⟩ := vi_get hi5
                have lt : i5 < (runs caps pp ds 9 st).length := (List.getElem?_eq_some_iff.mp hz).1
                refine ⟨rfl, _, rfl, _, _, rfl, rfl, .inl ⟨by decide, by decide⟩, _, k1, Nat.lt_of_lt_of_le (by rw [List.length_map, List.length_take]; omega : _ < 100) (by decide), ?_, same_mut k2 hD6⟩
                rw [upd_same, List.take_add_one]
                have e : (mulL 3 (runs caps pp ds 9 st))[i5]? = some (3 * z) := by
                  unfold mulL
                  rw [List.getElem?_map, hz]
                  simp [Int.mul_comm]
                rw [e]
                simp [vi]
              rintro HO ⟨k6, sO⟩
              have vl2 : (vi (runs caps pp ds 9 st)).length = (mulL 3 (runs caps pp ds 9 st)).length := by
                unfold mulL
                rw [List.length_map, List.length_map]
              rw [vl2, List.take_length] at k6
              have eq3 : runs caps (3 * pp) ds 9 (mulL 3 st) = mulL 3 (runs caps pp ds 9 st) := by
                rw [Int.mul_comm]
                exact runs_fine (by decide)
              refine ne_ints (SqL.of (sO _ _ hq7)) (SqL.of k6) eq3 ⟨_, rfl, ifF rfl ?_⟩
              exact ⟨_, _, _, _, rfl, sI.trans (sL.trans (sM.trans (s7'.trans sO)))⟩
            · rintro σ H' ⟨v14, v15, v16, v17, rfl, e⟩
              exact ⟨_, _, _, _, _, _, _, _, _, _, _, _, _, _, _, _, _, rfl, sm0.trans (sF0.trans e)⟩
    · rintro σ H' ⟨v1, v2, v3, v4, v5, v6, v7, v8, v9, v10, v11, v12, v13, v14, v15, v16, v17, rfl, sm0⟩
      exact hq H'
end
end Kp

namespace Kp
open PySem PySem.Spec PyProof.Rows L2 KpR
theorem funD2 {K : PySem.W.Frag} {f D : Addr} {x qual : Str} {st : Stmt} {oc doc pm cdv ct : Value} {od an : Option Addr} {osl : Array (Option Value)} {t1 t2 : Tok}
    (l : K.lookup f = some ⟨oc, od, .func (PySem.W.fnOf x qual (defArgs st) (defBody st) (defScope st) .none (.ref D) doc pm an cdv ct), osl⟩) (c : PySem.W.codeIn K cdv qual = true) (k : PySem.W.keepIn K (.ref f) = true)
    (w1 : PySem.W.nsIn K D "parts" = some (some (.int 1 t1))) (w2 : PySem.W.nsIn K D "times" = some (some (.int 1 t2))) :
    FunD K x qual (defArgs st) (defBody st) (defScope st) [] [("parts", .int 1), ("times", .int 1)] f (PySem.W.fnOf x qual (defArgs st) (defBody st) (defScope st) .none (.ref D) doc pm an cdv ct) := by
  refine ⟨⟨oc, od, .none, .ref D, doc, pm, an, cdv, ct, osl, rfl, l, c, .inl ⟨rfl, rfl⟩, .inr ⟨D, rfl, fun q hq => ?_⟩⟩, k⟩
  rcases List.mem_cons.mp hq with e | hq
  · rw [e]
    exact ⟨_, w1, _, rfl⟩
  · rcases List.mem_cons.mp hq with e | hq
    · rw [e]
      exact ⟨_, w2, _, rfl⟩
    · cases hq
theorem all_mk {l : PySem.W.OpenLaw} {w : World} {K : PySem.W.Frag} {h : Heap} {mg : Str → Option Value} {fa CJars CPour CPut CDraw CChange CRow fcheckmuch fcheckjar fcheckdeed fJarsInit fPourInit fPutInit fDrawInit fChangeInit fRowInit fcheckstart fbehinddeed fbehindround fbehind fLstate fLdigit fLdeed fLhouse fLrow fLonce fLapart fLbelow fLallonce fLgoneon flaw Dbehind : Addr} (X : K.In h) (G : h.Ns mainGlobals mg) (hfa : mg "law" = some (.ref fa))
    {odcheckmuch ancheckmuch odcheckjar ancheckjar odcheckdeed ancheckdeed odJarsInit anJarsInit odPourInit anPourInit odPutInit anPutInit odDrawInit anDrawInit odChangeInit anChangeInit odRowInit anRowInit odcheckstart ancheckstart odbehinddeed anbehinddeed odbehindround anbehindround odbehind anbehind odLstate anLstate odLdigit anLdigit odLdeed anLdeed odLhouse anLhouse odLrow anLrow odLonce anLonce odLapart anLapart odLbelow anLbelow odLallonce anLallonce odLgoneon anLgoneon odlaw anlaw : Option Addr} {slcheckmuch slcheckjar slcheckdeed slJarsInit slPourInit slPutInit slDrawInit slChangeInit slRowInit slcheckstart slbehinddeed slbehindround slbehind slLstate slLdigit slLdeed slLhouse slLrow slLonce slLapart slLbelow slLallonce slLgoneon sllaw : Array (Option Value)} {occheckmuch dccheckmuch pmcheckmuch cdcheckmuch ctcheckmuch kVcheckmuch occheckjar dccheckjar pmcheckjar cdcheckjar ctcheckjar kVcheckjar occheckdeed dccheckdeed pmcheckdeed cdcheckdeed ctcheckdeed kVcheckdeed ocJarsInit dcJarsInit pmJarsInit cdJarsInit ctJarsInit kVJarsInit ocPourInit dcPourInit pmPourInit cdPourInit ctPourInit kVPourInit ocPutInit dcPutInit pmPutInit cdPutInit ctPutInit kVPutInit ocDrawInit dcDrawInit pmDrawInit cdDrawInit ctDrawInit kVDrawInit ocChangeInit dcChangeInit pmChangeInit cdChangeInit ctChangeInit kVChangeInit ocRowInit dcRowInit pmRowInit cdRowInit ctRowInit kVRowInit occheckstart dccheckstart pmcheckstart cdcheckstart ctcheckstart kVcheckstart ocbehinddeed dcbehinddeed pmbehinddeed cdbehinddeed ctbehinddeed kVbehinddeed ocbehindround dcbehindround pmbehindround cdbehindround ctbehindround kVbehindround ocbehind dcbehind pmbehind cdbehind ctbehind ocLstate dcLstate pmLstate cdLstate ctLstate kVLstate ocLdigit dcLdigit pmLdigit cdLdigit ctLdigit kVLdigit ocLdeed dcLdeed pmLdeed cdLdeed ctLdeed kVLdeed ocLhouse dcLhouse pmLhouse cdLhouse ctLhouse kVLhouse ocLrow dcLrow pmLrow cdLrow ctLrow kVLrow ocLonce dcLonce pmLonce cdLonce ctLonce kVLonce ocLapart dcLapart pmLapart cdLapart ctLapart kVLapart ocLbelow dcLbelow pmLbelow cdLbelow ctLbelow kVLbelow ocLallonce dcLallonce pmLallonce cdLallonce ctLallonce kVLallonce ocLgoneon dcLgoneon pmLgoneon cdLgoneon ctLgoneon kVLgoneon oclaw dclaw pmlaw cdlaw ctlaw kVlaw : Value} {tkMOSTJARS tkMOSTDEEDS tkMOSTMUCH tkMOSTTIMES tbehind_parts tbehind_times : Tok}
    (xJars : PySem.W.nsIn K mainGlobals "Jars" = some (some (.ref CJars)))
    (xPour : PySem.W.nsIn K mainGlobals "Pour" = some (some (.ref CPour)))
    (xPut : PySem.W.nsIn K mainGlobals "Put" = some (some (.ref CPut)))
    (xDraw : PySem.W.nsIn K mainGlobals "Draw" = some (some (.ref CDraw)))
    (xChange : PySem.W.nsIn K mainGlobals "Change" = some (some (.ref CChange)))
    (xRow : PySem.W.nsIn K mainGlobals "Row" = some (some (.ref CRow)))
    (acheckmuch : PySem.W.nsIn K mainGlobals "check_much" = some (some (.ref fcheckmuch)))
    (lcheckmuch : K.lookup fcheckmuch = some ⟨occheckmuch, odcheckmuch, .func (PySem.W.fnOf "check_much" "check_much" (defArgs scheckmuch) (defBody scheckmuch) (defScope scheckmuch) .none kVcheckmuch dccheckmuch pmcheckmuch ancheckmuch cdcheckmuch ctcheckmuch), slcheckmuch⟩)
    (qcheckmuch : PySem.W.codeIn K cdcheckmuch "check_much" = true)
    (kcheckmuch : PySem.W.keepIn K (.ref fcheckmuch) = true)
    (acheckjar : PySem.W.nsIn K mainGlobals "check_jar" = some (some (.ref fcheckjar)))
    (lcheckjar : K.lookup fcheckjar = some ⟨occheckjar, odcheckjar, .func (PySem.W.fnOf "check_jar" "check_jar" (defArgs scheckjar) (defBody scheckjar) (defScope scheckjar) .none kVcheckjar dccheckjar pmcheckjar ancheckjar cdcheckjar ctcheckjar), slcheckjar⟩)
    (qcheckjar : PySem.W.codeIn K cdcheckjar "check_jar" = true)
    (kcheckjar : PySem.W.keepIn K (.ref fcheckjar) = true)
    (acheckdeed : PySem.W.nsIn K mainGlobals "check_deed" = some (some (.ref fcheckdeed)))
    (lcheckdeed : K.lookup fcheckdeed = some ⟨occheckdeed, odcheckdeed, .func (PySem.W.fnOf "check_deed" "check_deed" (defArgs scheckdeed) (defBody scheckdeed) (defScope scheckdeed) .none kVcheckdeed dccheckdeed pmcheckdeed ancheckdeed cdcheckdeed ctcheckdeed), slcheckdeed⟩)
    (qcheckdeed : PySem.W.codeIn K cdcheckdeed "check_deed" = true)
    (kcheckdeed : PySem.W.keepIn K (.ref fcheckdeed) = true)
    (aJarsInit : PySem.W.findIn K (.ref CJars) "__init__" = some (some (.ref fJarsInit)))
    (iJarsInit : PySem.W.isFn K (.ref fJarsInit) = true)
    (lJarsInit : K.lookup fJarsInit = some ⟨ocJarsInit, odJarsInit, .func (PySem.W.fnOf "__init__" "Jars.__init__" (defArgs sJarsInit) (defBody sJarsInit) (defScope sJarsInit) .none kVJarsInit dcJarsInit pmJarsInit anJarsInit cdJarsInit ctJarsInit), slJarsInit⟩)
    (qJarsInit : PySem.W.codeIn K cdJarsInit "Jars.__init__" = true)
    (kJarsInit : PySem.W.keepIn K (.ref fJarsInit) = true)
    (aPourInit : PySem.W.findIn K (.ref CPour) "__init__" = some (some (.ref fPourInit)))
    (iPourInit : PySem.W.isFn K (.ref fPourInit) = true)
    (lPourInit : K.lookup fPourInit = some ⟨ocPourInit, odPourInit, .func (PySem.W.fnOf "__init__" "Pour.__init__" (defArgs sPourInit) (defBody sPourInit) (defScope sPourInit) .none kVPourInit dcPourInit pmPourInit anPourInit cdPourInit ctPourInit), slPourInit⟩)
    (qPourInit : PySem.W.codeIn K cdPourInit "Pour.__init__" = true)
    (kPourInit : PySem.W.keepIn K (.ref fPourInit) = true)
    (aPutInit : PySem.W.findIn K (.ref CPut) "__init__" = some (some (.ref fPutInit)))
    (iPutInit : PySem.W.isFn K (.ref fPutInit) = true)
    (lPutInit : K.lookup fPutInit = some ⟨ocPutInit, odPutInit, .func (PySem.W.fnOf "__init__" "Put.__init__" (defArgs sPutInit) (defBody sPutInit) (defScope sPutInit) .none kVPutInit dcPutInit pmPutInit anPutInit cdPutInit ctPutInit), slPutInit⟩)
    (qPutInit : PySem.W.codeIn K cdPutInit "Put.__init__" = true)
    (kPutInit : PySem.W.keepIn K (.ref fPutInit) = true)
    (aDrawInit : PySem.W.findIn K (.ref CDraw) "__init__" = some (some (.ref fDrawInit)))
    (iDrawInit : PySem.W.isFn K (.ref fDrawInit) = true)
    (lDrawInit : K.lookup fDrawInit = some ⟨ocDrawInit, odDrawInit, .func (PySem.W.fnOf "__init__" "Draw.__init__" (defArgs sDrawInit) (defBody sDrawInit) (defScope sDrawInit) .none kVDrawInit dcDrawInit pmDrawInit anDrawInit cdDrawInit ctDrawInit), slDrawInit⟩)
    (qDrawInit : PySem.W.codeIn K cdDrawInit "Draw.__init__" = true)
    (kDrawInit : PySem.W.keepIn K (.ref fDrawInit) = true)
    (aChangeInit : PySem.W.findIn K (.ref CChange) "__init__" = some (some (.ref fChangeInit)))
    (iChangeInit : PySem.W.isFn K (.ref fChangeInit) = true)
    (lChangeInit : K.lookup fChangeInit = some ⟨ocChangeInit, odChangeInit, .func (PySem.W.fnOf "__init__" "Change.__init__" (defArgs sChangeInit) (defBody sChangeInit) (defScope sChangeInit) .none kVChangeInit dcChangeInit pmChangeInit anChangeInit cdChangeInit ctChangeInit), slChangeInit⟩)
    (qChangeInit : PySem.W.codeIn K cdChangeInit "Change.__init__" = true)
    (kChangeInit : PySem.W.keepIn K (.ref fChangeInit) = true)
    (aRowInit : PySem.W.findIn K (.ref CRow) "__init__" = some (some (.ref fRowInit)))
    (iRowInit : PySem.W.isFn K (.ref fRowInit) = true)
    (lRowInit : K.lookup fRowInit = some ⟨ocRowInit, odRowInit, .func (PySem.W.fnOf "__init__" "Row.__init__" (defArgs sRowInit) (defBody sRowInit) (defScope sRowInit) .none kVRowInit dcRowInit pmRowInit anRowInit cdRowInit ctRowInit), slRowInit⟩)
    (qRowInit : PySem.W.codeIn K cdRowInit "Row.__init__" = true)
    (kRowInit : PySem.W.keepIn K (.ref fRowInit) = true)
    (acheckstart : PySem.W.nsIn K mainGlobals "check_start" = some (some (.ref fcheckstart)))
    (lcheckstart : K.lookup fcheckstart = some ⟨occheckstart, odcheckstart, .func (PySem.W.fnOf "check_start" "check_start" (defArgs scheckstart) (defBody scheckstart) (defScope scheckstart) .none kVcheckstart dccheckstart pmcheckstart ancheckstart cdcheckstart ctcheckstart), slcheckstart⟩)
    (qcheckstart : PySem.W.codeIn K cdcheckstart "check_start" = true)
    (kcheckstart : PySem.W.keepIn K (.ref fcheckstart) = true)
    (abehinddeed : PySem.W.nsIn K mainGlobals "behind_deed" = some (some (.ref fbehinddeed)))
    (lbehinddeed : K.lookup fbehinddeed = some ⟨ocbehinddeed, odbehinddeed, .func (PySem.W.fnOf "behind_deed" "behind_deed" (defArgs sbehinddeed) (defBody sbehinddeed) (defScope sbehinddeed) .none kVbehinddeed dcbehinddeed pmbehinddeed anbehinddeed cdbehinddeed ctbehinddeed), slbehinddeed⟩)
    (qbehinddeed : PySem.W.codeIn K cdbehinddeed "behind_deed" = true)
    (kbehinddeed : PySem.W.keepIn K (.ref fbehinddeed) = true)
    (abehindround : PySem.W.nsIn K mainGlobals "behind_round" = some (some (.ref fbehindround)))
    (lbehindround : K.lookup fbehindround = some ⟨ocbehindround, odbehindround, .func (PySem.W.fnOf "behind_round" "behind_round" (defArgs sbehindround) (defBody sbehindround) (defScope sbehindround) .none kVbehindround dcbehindround pmbehindround anbehindround cdbehindround ctbehindround), slbehindround⟩)
    (qbehindround : PySem.W.codeIn K cdbehindround "behind_round" = true)
    (kbehindround : PySem.W.keepIn K (.ref fbehindround) = true)
    (abehind : PySem.W.nsIn K mainGlobals "behind" = some (some (.ref fbehind)))
    (lbehind : K.lookup fbehind = some ⟨ocbehind, odbehind, .func (PySem.W.fnOf "behind" "behind" (defArgs sbehind) (defBody sbehind) (defScope sbehind) .none (.ref Dbehind) dcbehind pmbehind anbehind cdbehind ctbehind), slbehind⟩)
    (qbehind : PySem.W.codeIn K cdbehind "behind" = true)
    (kbehind : PySem.W.keepIn K (.ref fbehind) = true)
    (wbehind_parts : PySem.W.nsIn K Dbehind "parts" = some (some (.int 1 tbehind_parts)))
    (wbehind_times : PySem.W.nsIn K Dbehind "times" = some (some (.int 1 tbehind_times)))
    (aLstate : PySem.W.nsIn K mainGlobals "_law_state" = some (some (.ref fLstate)))
    (lLstate : K.lookup fLstate = some ⟨ocLstate, odLstate, .func (PySem.W.fnOf "_law_state" "_law_state" (defArgs sLstate) (defBody sLstate) (defScope sLstate) .none kVLstate dcLstate pmLstate anLstate cdLstate ctLstate), slLstate⟩)
    (qLstate : PySem.W.codeIn K cdLstate "_law_state" = true)
    (kLstate : PySem.W.keepIn K (.ref fLstate) = true)
    (aLdigit : PySem.W.nsIn K mainGlobals "_law_digit" = some (some (.ref fLdigit)))
    (lLdigit : K.lookup fLdigit = some ⟨ocLdigit, odLdigit, .func (PySem.W.fnOf "_law_digit" "_law_digit" (defArgs sLdigit) (defBody sLdigit) (defScope sLdigit) .none kVLdigit dcLdigit pmLdigit anLdigit cdLdigit ctLdigit), slLdigit⟩)
    (qLdigit : PySem.W.codeIn K cdLdigit "_law_digit" = true)
    (kLdigit : PySem.W.keepIn K (.ref fLdigit) = true)
    (aLdeed : PySem.W.nsIn K mainGlobals "_law_deed" = some (some (.ref fLdeed)))
    (lLdeed : K.lookup fLdeed = some ⟨ocLdeed, odLdeed, .func (PySem.W.fnOf "_law_deed" "_law_deed" (defArgs sLdeed) (defBody sLdeed) (defScope sLdeed) .none kVLdeed dcLdeed pmLdeed anLdeed cdLdeed ctLdeed), slLdeed⟩)
    (qLdeed : PySem.W.codeIn K cdLdeed "_law_deed" = true)
    (kLdeed : PySem.W.keepIn K (.ref fLdeed) = true)
    (aLhouse : PySem.W.nsIn K mainGlobals "_law_house" = some (some (.ref fLhouse)))
    (lLhouse : K.lookup fLhouse = some ⟨ocLhouse, odLhouse, .func (PySem.W.fnOf "_law_house" "_law_house" (defArgs sLhouse) (defBody sLhouse) (defScope sLhouse) .none kVLhouse dcLhouse pmLhouse anLhouse cdLhouse ctLhouse), slLhouse⟩)
    (qLhouse : PySem.W.codeIn K cdLhouse "_law_house" = true)
    (kLhouse : PySem.W.keepIn K (.ref fLhouse) = true)
    (aLrow : PySem.W.nsIn K mainGlobals "_law_row" = some (some (.ref fLrow)))
    (lLrow : K.lookup fLrow = some ⟨ocLrow, odLrow, .func (PySem.W.fnOf "_law_row" "_law_row" (defArgs sLrow) (defBody sLrow) (defScope sLrow) .none kVLrow dcLrow pmLrow anLrow cdLrow ctLrow), slLrow⟩)
    (qLrow : PySem.W.codeIn K cdLrow "_law_row" = true)
    (kLrow : PySem.W.keepIn K (.ref fLrow) = true)
    (aLonce : PySem.W.nsIn K mainGlobals "_law_once" = some (some (.ref fLonce)))
    (lLonce : K.lookup fLonce = some ⟨ocLonce, odLonce, .func (PySem.W.fnOf "_law_once" "_law_once" (defArgs sLonce) (defBody sLonce) (defScope sLonce) .none kVLonce dcLonce pmLonce anLonce cdLonce ctLonce), slLonce⟩)
    (qLonce : PySem.W.codeIn K cdLonce "_law_once" = true)
    (kLonce : PySem.W.keepIn K (.ref fLonce) = true)
    (aLapart : PySem.W.nsIn K mainGlobals "_law_apart" = some (some (.ref fLapart)))
    (lLapart : K.lookup fLapart = some ⟨ocLapart, odLapart, .func (PySem.W.fnOf "_law_apart" "_law_apart" (defArgs sLapart) (defBody sLapart) (defScope sLapart) .none kVLapart dcLapart pmLapart anLapart cdLapart ctLapart), slLapart⟩)
    (qLapart : PySem.W.codeIn K cdLapart "_law_apart" = true)
    (kLapart : PySem.W.keepIn K (.ref fLapart) = true)
    (aLbelow : PySem.W.nsIn K mainGlobals "_law_below" = some (some (.ref fLbelow)))
    (lLbelow : K.lookup fLbelow = some ⟨ocLbelow, odLbelow, .func (PySem.W.fnOf "_law_below" "_law_below" (defArgs sLbelow) (defBody sLbelow) (defScope sLbelow) .none kVLbelow dcLbelow pmLbelow anLbelow cdLbelow ctLbelow), slLbelow⟩)
    (qLbelow : PySem.W.codeIn K cdLbelow "_law_below" = true)
    (kLbelow : PySem.W.keepIn K (.ref fLbelow) = true)
    (aLallonce : PySem.W.nsIn K mainGlobals "_law_all_once" = some (some (.ref fLallonce)))
    (lLallonce : K.lookup fLallonce = some ⟨ocLallonce, odLallonce, .func (PySem.W.fnOf "_law_all_once" "_law_all_once" (defArgs sLallonce) (defBody sLallonce) (defScope sLallonce) .none kVLallonce dcLallonce pmLallonce anLallonce cdLallonce ctLallonce), slLallonce⟩)
    (qLallonce : PySem.W.codeIn K cdLallonce "_law_all_once" = true)
    (kLallonce : PySem.W.keepIn K (.ref fLallonce) = true)
    (aLgoneon : PySem.W.nsIn K mainGlobals "_law_gone_on" = some (some (.ref fLgoneon)))
    (lLgoneon : K.lookup fLgoneon = some ⟨ocLgoneon, odLgoneon, .func (PySem.W.fnOf "_law_gone_on" "_law_gone_on" (defArgs sLgoneon) (defBody sLgoneon) (defScope sLgoneon) .none kVLgoneon dcLgoneon pmLgoneon anLgoneon cdLgoneon ctLgoneon), slLgoneon⟩)
    (qLgoneon : PySem.W.codeIn K cdLgoneon "_law_gone_on" = true)
    (kLgoneon : PySem.W.keepIn K (.ref fLgoneon) = true)
    (alaw : PySem.W.nsIn K mainGlobals "law" = some (some (.ref flaw)))
    (llaw : K.lookup flaw = some ⟨oclaw, odlaw, .func (PySem.W.fnOf "law" "law" (defArgs slaw) (defBody slaw) (defScope slaw) .none kVlaw dclaw pmlaw anlaw cdlaw ctlaw), sllaw⟩)
    (qlaw : PySem.W.codeIn K cdlaw "law" = true)
    (klaw : PySem.W.keepIn K (.ref flaw) = true)
    (pgJars : PySem.W.plainGet K CJars Str.empty = true)
    (hdJars : PySem.W.hasDictIn K CJars = true)
    (poJars : PySem.W.plainOver K CJars = true)
    (saJars : PySem.W.findIn K (.ref CJars) "__setattr__" = some (some (.builtin "object.__setattr__")))
    (mkJars : PySem.W.makesIn K CJars = true)
    (kcJars : PySem.W.keepIn K (.ref CJars) = true)
    (nJars_sizes : PySem.W.findIn K (.ref CJars) "sizes" = some none)
    (pgPour : PySem.W.plainGet K CPour Str.empty = true)
    (hdPour : PySem.W.hasDictIn K CPour = true)
    (poPour : PySem.W.plainOver K CPour = true)
    (saPour : PySem.W.findIn K (.ref CPour) "__setattr__" = some (some (.builtin "object.__setattr__")))
    (mkPour : PySem.W.makesIn K CPour = true)
    (kcPour : PySem.W.keepIn K (.ref CPour) = true)
    (nPour_a : PySem.W.findIn K (.ref CPour) "a" = some none)
    (nPour_b : PySem.W.findIn K (.ref CPour) "b" = some none)
    (pgPut : PySem.W.plainGet K CPut Str.empty = true)
    (hdPut : PySem.W.hasDictIn K CPut = true)
    (poPut : PySem.W.plainOver K CPut = true)
    (saPut : PySem.W.findIn K (.ref CPut) "__setattr__" = some (some (.builtin "object.__setattr__")))
    (mkPut : PySem.W.makesIn K CPut = true)
    (kcPut : PySem.W.keepIn K (.ref CPut) = true)
    (nPut_a : PySem.W.findIn K (.ref CPut) "a" = some none)
    (nPut_k : PySem.W.findIn K (.ref CPut) "k" = some none)
    (pgDraw : PySem.W.plainGet K CDraw Str.empty = true)
    (hdDraw : PySem.W.hasDictIn K CDraw = true)
    (poDraw : PySem.W.plainOver K CDraw = true)
    (saDraw : PySem.W.findIn K (.ref CDraw) "__setattr__" = some (some (.builtin "object.__setattr__")))
    (mkDraw : PySem.W.makesIn K CDraw = true)
    (kcDraw : PySem.W.keepIn K (.ref CDraw) = true)
    (nDraw_a : PySem.W.findIn K (.ref CDraw) "a" = some none)
    (nDraw_k : PySem.W.findIn K (.ref CDraw) "k" = some none)
    (pgChange : PySem.W.plainGet K CChange Str.empty = true)
    (hdChange : PySem.W.hasDictIn K CChange = true)
    (poChange : PySem.W.plainOver K CChange = true)
    (saChange : PySem.W.findIn K (.ref CChange) "__setattr__" = some (some (.builtin "object.__setattr__")))
    (mkChange : PySem.W.makesIn K CChange = true)
    (kcChange : PySem.W.keepIn K (.ref CChange) = true)
    (nChange_a : PySem.W.findIn K (.ref CChange) "a" = some none)
    (nChange_b : PySem.W.findIn K (.ref CChange) "b" = some none)
    (pgRow : PySem.W.plainGet K CRow Str.empty = true)
    (hdRow : PySem.W.hasDictIn K CRow = true)
    (poRow : PySem.W.plainOver K CRow = true)
    (saRow : PySem.W.findIn K (.ref CRow) "__setattr__" = some (some (.builtin "object.__setattr__")))
    (mkRow : PySem.W.makesIn K CRow = true)
    (kcRow : PySem.W.keepIn K (.ref CRow) = true)
    (nRow_jars : PySem.W.findIn K (.ref CRow) "jars" = some none)
    (nRow_deeds : PySem.W.findIn K (.ref CRow) "deeds" = some none)
    (yaChange : PySem.W.findIn K (.ref CChange) "__class__" = some (some (.builtin "object.__class__")))
    (ymChange : PySem.W.mroIn K CChange (.type "object") = some true)
    (yaDraw : PySem.W.findIn K (.ref CDraw) "__class__" = some (some (.builtin "object.__class__")))
    (ymDraw : PySem.W.mroIn K CDraw (.type "object") = some true)
    (yaPour : PySem.W.findIn K (.ref CPour) "__class__" = some (some (.builtin "object.__class__")))
    (ymPour : PySem.W.mroIn K CPour (.type "object") = some true)
    (yaPut : PySem.W.findIn K (.ref CPut) "__class__" = some (some (.builtin "object.__class__")))
    (ymPut : PySem.W.mroIn K CPut (.type "object") = some true)
    (yn : PySem.W.specialIn K (.builtin "object.__class__") "__get__" = some (some (.builtin "getset_descriptor.__get__")))
    (yt : PySem.W.takesIn K (.builtin "object.__class__") = some true)
    (isPour_Put : PySem.W.kitOne K (.ref CPour) (.ref CPut) = some false)
    (isPour_Draw : PySem.W.kitOne K (.ref CPour) (.ref CDraw) = some false)
    (isPour_Pour : PySem.W.kitOne K (.ref CPour) (.ref CPour) = some true)
    (isPour_Change : PySem.W.kitOne K (.ref CPour) (.ref CChange) = some false)
    (isPut_Put : PySem.W.kitOne K (.ref CPut) (.ref CPut) = some true)
    (isPut_Draw : PySem.W.kitOne K (.ref CPut) (.ref CDraw) = some false)
    (isPut_Pour : PySem.W.kitOne K (.ref CPut) (.ref CPour) = some false)
    (isPut_Change : PySem.W.kitOne K (.ref CPut) (.ref CChange) = some false)
    (isDraw_Put : PySem.W.kitOne K (.ref CDraw) (.ref CPut) = some false)
    (isDraw_Draw : PySem.W.kitOne K (.ref CDraw) (.ref CDraw) = some true)
    (isDraw_Pour : PySem.W.kitOne K (.ref CDraw) (.ref CPour) = some false)
    (isDraw_Change : PySem.W.kitOne K (.ref CDraw) (.ref CChange) = some false)
    (isChange_Put : PySem.W.kitOne K (.ref CChange) (.ref CPut) = some false)
    (isChange_Draw : PySem.W.kitOne K (.ref CChange) (.ref CDraw) = some false)
    (isChange_Pour : PySem.W.kitOne K (.ref CChange) (.ref CPour) = some false)
    (isChange_Change : PySem.W.kitOne K (.ref CChange) (.ref CChange) = some true)
    (gMOSTJARS : PySem.W.nsIn K mainGlobals "MOST_JARS" = some (some (.int 6 tkMOSTJARS)))
    (gMOSTDEEDS : PySem.W.nsIn K mainGlobals "MOST_DEEDS" = some (some (.int 20 tkMOSTDEEDS)))
    (gMOSTMUCH : PySem.W.nsIn K mainGlobals "MOST_MUCH" = some (some (.int 1000000000000 tkMOSTMUCH)))
    (gMOSTTIMES : PySem.W.nsIn K mainGlobals "MOST_TIMES" = some (some (.int 1000 tkMOSTTIMES)))
    (zabs : PySem.W.nsIn K mainGlobals "abs" = some none)
    (zenumerate : PySem.W.nsIn K mainGlobals "enumerate" = some none)
    (zint : PySem.W.nsIn K mainGlobals "int" = some none)
    (zisinstance : PySem.W.nsIn K mainGlobals "isinstance" = some none)
    (zlen : PySem.W.nsIn K mainGlobals "len" = some none)
    (zlist : PySem.W.nsIn K mainGlobals "list" = some none)
    (zmax : PySem.W.nsIn K mainGlobals "max" = some none)
    (zmin : PySem.W.nsIn K mainGlobals "min" = some none)
    (zrange : PySem.W.nsIn K mainGlobals "range" = some none)
    (zrepr : PySem.W.nsIn K mainGlobals "repr" = some none)
    (zsum : PySem.W.nsIn K mainGlobals "sum" = some none)
    (ztuple : PySem.W.nsIn K mainGlobals "tuple" = some none)
    (zzip : PySem.W.nsIn K mainGlobals "zip" = some none) :
    ∃ fd : FuncData, (∀ (s : Shared) (v : Value), BindsTo s fd ⟨[v], []⟩ [("_law_script", v)]) ∧ ∀ base : Heap, K.In base → base.Ns mainGlobals mg → KpR.RunC l.prog w K mg base CX0 fa fd ["_law_script"] (spLaw K) := by
  have e := hfa.symm.trans (PySem.W.mg_of X G alaw)
  cases e
  exact ⟨PySem.W.fnOf "law" "law" (defArgs slaw) (defBody slaw) (defScope slaw) .none kVlaw dclaw pmlaw anlaw cdlaw ctlaw, fun s v => .of_eq rfl, fun base _ _ => oklaw {
    cJars := CJars
    mJars := PySem.W.mg_of X G xJars
    cPour := CPour
    mPour := PySem.W.mg_of X G xPour
    cPut := CPut
    mPut := PySem.W.mg_of X G xPut
    cDraw := CDraw
    mDraw := PySem.W.mg_of X G xDraw
    cChange := CChange
    mChange := PySem.W.mg_of X G xChange
    cRow := CRow
    mRow := PySem.W.mg_of X G xRow
    gcheckmuch := PySem.W.mg_of X G acheckmuch
    acheckmuch := fcheckmuch
    dcheckmuch := PySem.W.fnOf "check_much" "check_much" (defArgs scheckmuch) (defBody scheckmuch) (defScope scheckmuch) .none kVcheckmuch dccheckmuch pmcheckmuch ancheckmuch cdcheckmuch ctcheckmuch
    fcheckmuch := fun_mk (st := scheckmuch) lcheckmuch qcheckmuch kcheckmuch
    bcheckmuch := (fun_mk (st := scheckmuch) lcheckmuch qcheckmuch kcheckmuch).binds (ps := ["what", "much"]) fun _ _ _ _ _ _ us hl => match us, hl with | [_, _], _ => rfl
    gcheckjar := PySem.W.mg_of X G acheckjar
    acheckjar := fcheckjar
    dcheckjar := PySem.W.fnOf "check_jar" "check_jar" (defArgs scheckjar) (defBody scheckjar) (defScope scheckjar) .none kVcheckjar dccheckjar pmcheckjar ancheckjar cdcheckjar ctcheckjar
    fcheckjar := fun_mk (st := scheckjar) lcheckjar qcheckjar kcheckjar
    bcheckjar := (fun_mk (st := scheckjar) lcheckjar qcheckjar kcheckjar).binds (ps := ["jars", "jar"]) fun _ _ _ _ _ _ us hl => match us, hl with | [_, _], _ => rfl
    gcheckdeed := PySem.W.mg_of X G acheckdeed
    acheckdeed := fcheckdeed
    dcheckdeed := PySem.W.fnOf "check_deed" "check_deed" (defArgs scheckdeed) (defBody scheckdeed) (defScope scheckdeed) .none kVcheckdeed dccheckdeed pmcheckdeed ancheckdeed cdcheckdeed ctcheckdeed
    fcheckdeed := fun_mk (st := scheckdeed) lcheckdeed qcheckdeed kcheckdeed
    bcheckdeed := (fun_mk (st := scheckdeed) lcheckdeed qcheckdeed kcheckdeed).binds (ps := ["jars", "deed"]) fun _ _ _ _ _ _ us hl => match us, hl with | [_, _], _ => rfl
    aJarsInit := fJarsInit
    dJarsInit := PySem.W.fnOf "__init__" "Jars.__init__" (defArgs sJarsInit) (defBody sJarsInit) (defScope sJarsInit) .none kVJarsInit dcJarsInit pmJarsInit anJarsInit cdJarsInit ctJarsInit
    fJarsInit := fun_mk (st := sJarsInit) lJarsInit qJarsInit kJarsInit
    bJarsInit := (fun_mk (st := sJarsInit) lJarsInit qJarsInit kJarsInit).binds (ps := ["self", "sizes"]) fun _ _ _ _ _ _ us hl => match us, hl with | [_, _], _ => rfl
    aPourInit := fPourInit
    dPourInit := PySem.W.fnOf "__init__" "Pour.__init__" (defArgs sPourInit) (defBody sPourInit) (defScope sPourInit) .none kVPourInit dcPourInit pmPourInit anPourInit cdPourInit ctPourInit
    fPourInit := fun_mk (st := sPourInit) lPourInit qPourInit kPourInit
    bPourInit := (fun_mk (st := sPourInit) lPourInit qPourInit kPourInit).binds (ps := ["self", "a", "b"]) fun _ _ _ _ _ _ us hl => match us, hl with | [_, _, _], _ => rfl
    aPutInit := fPutInit
    dPutInit := PySem.W.fnOf "__init__" "Put.__init__" (defArgs sPutInit) (defBody sPutInit) (defScope sPutInit) .none kVPutInit dcPutInit pmPutInit anPutInit cdPutInit ctPutInit
    fPutInit := fun_mk (st := sPutInit) lPutInit qPutInit kPutInit
    bPutInit := (fun_mk (st := sPutInit) lPutInit qPutInit kPutInit).binds (ps := ["self", "a", "k"]) fun _ _ _ _ _ _ us hl => match us, hl with | [_, _, _], _ => rfl
    aDrawInit := fDrawInit
    dDrawInit := PySem.W.fnOf "__init__" "Draw.__init__" (defArgs sDrawInit) (defBody sDrawInit) (defScope sDrawInit) .none kVDrawInit dcDrawInit pmDrawInit anDrawInit cdDrawInit ctDrawInit
    fDrawInit := fun_mk (st := sDrawInit) lDrawInit qDrawInit kDrawInit
    bDrawInit := (fun_mk (st := sDrawInit) lDrawInit qDrawInit kDrawInit).binds (ps := ["self", "a", "k"]) fun _ _ _ _ _ _ us hl => match us, hl with | [_, _, _], _ => rfl
    aChangeInit := fChangeInit
    dChangeInit := PySem.W.fnOf "__init__" "Change.__init__" (defArgs sChangeInit) (defBody sChangeInit) (defScope sChangeInit) .none kVChangeInit dcChangeInit pmChangeInit anChangeInit cdChangeInit ctChangeInit
    fChangeInit := fun_mk (st := sChangeInit) lChangeInit qChangeInit kChangeInit
    bChangeInit := (fun_mk (st := sChangeInit) lChangeInit qChangeInit kChangeInit).binds (ps := ["self", "a", "b"]) fun _ _ _ _ _ _ us hl => match us, hl with | [_, _, _], _ => rfl
    aRowInit := fRowInit
    dRowInit := PySem.W.fnOf "__init__" "Row.__init__" (defArgs sRowInit) (defBody sRowInit) (defScope sRowInit) .none kVRowInit dcRowInit pmRowInit anRowInit cdRowInit ctRowInit
    fRowInit := fun_mk (st := sRowInit) lRowInit qRowInit kRowInit
    bRowInit := (fun_mk (st := sRowInit) lRowInit qRowInit kRowInit).binds (ps := ["self", "jars", "deeds"]) fun _ _ _ _ _ _ us hl => match us, hl with | [_, _, _], _ => rfl
    gcheckstart := PySem.W.mg_of X G acheckstart
    acheckstart := fcheckstart
    dcheckstart := PySem.W.fnOf "check_start" "check_start" (defArgs scheckstart) (defBody scheckstart) (defScope scheckstart) .none kVcheckstart dccheckstart pmcheckstart ancheckstart cdcheckstart ctcheckstart
    fcheckstart := fun_mk (st := scheckstart) lcheckstart qcheckstart kcheckstart
    bcheckstart := (fun_mk (st := scheckstart) lcheckstart qcheckstart kcheckstart).binds (ps := ["jars", "start", "parts"]) fun _ _ _ _ _ _ us hl => match us, hl with | [_, _, _], _ => rfl
    gbehinddeed := PySem.W.mg_of X G abehinddeed
    abehinddeed := fbehinddeed
    dbehinddeed := PySem.W.fnOf "behind_deed" "behind_deed" (defArgs sbehinddeed) (defBody sbehinddeed) (defScope sbehinddeed) .none kVbehinddeed dcbehinddeed pmbehinddeed anbehinddeed cdbehinddeed ctbehinddeed
    fbehinddeed := fun_mk (st := sbehinddeed) lbehinddeed qbehinddeed kbehinddeed
    bbehinddeed := (fun_mk (st := sbehinddeed) lbehinddeed qbehinddeed kbehinddeed).binds (ps := ["jars", "deed", "stand", "parts"]) fun _ _ _ _ _ _ us hl => match us, hl with | [_, _, _, _], _ => rfl
    gbehindround := PySem.W.mg_of X G abehindround
    abehindround := fbehindround
    dbehindround := PySem.W.fnOf "behind_round" "behind_round" (defArgs sbehindround) (defBody sbehindround) (defScope sbehindround) .none kVbehindround dcbehindround pmbehindround anbehindround cdbehindround ctbehindround
    fbehindround := fun_mk (st := sbehindround) lbehindround qbehindround kbehindround
    bbehindround := (fun_mk (st := sbehindround) lbehindround qbehindround kbehindround).binds (ps := ["row", "stand", "parts"]) fun _ _ _ _ _ _ us hl => match us, hl with | [_, _, _], _ => rfl
    gbehind := PySem.W.mg_of X G abehind
    abehind := fbehind
    dbehind := PySem.W.fnOf "behind" "behind" (defArgs sbehind) (defBody sbehind) (defScope sbehind) .none (.ref Dbehind) dcbehind pmbehind anbehind cdbehind ctbehind
    fbehind := funD2 lbehind qbehind kbehind wbehind_parts wbehind_times
    gLstate := PySem.W.mg_of X G aLstate
    aLstate := fLstate
    dLstate := PySem.W.fnOf "_law_state" "_law_state" (defArgs sLstate) (defBody sLstate) (defScope sLstate) .none kVLstate dcLstate pmLstate anLstate cdLstate ctLstate
    fLstate := fun_mk (st := sLstate) lLstate qLstate kLstate
    bLstate := (fun_mk (st := sLstate) lLstate qLstate kLstate).binds (ps := ["_law_source"]) fun _ _ _ _ _ _ us hl => match us, hl with | [_], _ => rfl
    gLdigit := PySem.W.mg_of X G aLdigit
    aLdigit := fLdigit
    dLdigit := PySem.W.fnOf "_law_digit" "_law_digit" (defArgs sLdigit) (defBody sLdigit) (defScope sLdigit) .none kVLdigit dcLdigit pmLdigit anLdigit cdLdigit ctLdigit
    fLdigit := fun_mk (st := sLdigit) lLdigit qLdigit kLdigit
    bLdigit := (fun_mk (st := sLdigit) lLdigit qLdigit kLdigit).binds (ps := ["_law_state_here", "_law_base"]) fun _ _ _ _ _ _ us hl => match us, hl with | [_, _], _ => rfl
    gLdeed := PySem.W.mg_of X G aLdeed
    aLdeed := fLdeed
    dLdeed := PySem.W.fnOf "_law_deed" "_law_deed" (defArgs sLdeed) (defBody sLdeed) (defScope sLdeed) .none kVLdeed dcLdeed pmLdeed anLdeed cdLdeed ctLdeed
    fLdeed := fun_mk (st := sLdeed) lLdeed qLdeed kLdeed
    bLdeed := (fun_mk (st := sLdeed) lLdeed qLdeed kLdeed).binds (ps := ["_law_s", "_law_sizes"]) fun _ _ _ _ _ _ us hl => match us, hl with | [_, _], _ => rfl
    gLhouse := PySem.W.mg_of X G aLhouse
    aLhouse := fLhouse
    dLhouse := PySem.W.fnOf "_law_house" "_law_house" (defArgs sLhouse) (defBody sLhouse) (defScope sLhouse) .none kVLhouse dcLhouse pmLhouse anLhouse cdLhouse ctLhouse
    fLhouse := fun_mk (st := sLhouse) lLhouse qLhouse kLhouse
    bLhouse := (fun_mk (st := sLhouse) lLhouse qLhouse kLhouse).binds (ps := ["_law_s", "_law_jars", "_law_most", "_law_deeds"]) fun _ _ _ _ _ _ us hl => match us, hl with | [_, _, _, _], _ => rfl
    gLrow := PySem.W.mg_of X G aLrow
    aLrow := fLrow
    dLrow := PySem.W.fnOf "_law_row" "_law_row" (defArgs sLrow) (defBody sLrow) (defScope sLrow) .none kVLrow dcLrow pmLrow anLrow cdLrow ctLrow
    fLrow := fun_mk (st := sLrow) lLrow qLrow kLrow
    bLrow := (fun_mk (st := sLrow) lLrow qLrow kLrow).binds (ps := ["_law_sizes", "_law_deeds"]) fun _ _ _ _ _ _ us hl => match us, hl with | [_, _], _ => rfl
    gLonce := PySem.W.mg_of X G aLonce
    aLonce := fLonce
    dLonce := PySem.W.fnOf "_law_once" "_law_once" (defArgs sLonce) (defBody sLonce) (defScope sLonce) .none kVLonce dcLonce pmLonce anLonce cdLonce ctLonce
    fLonce := fun_mk (st := sLonce) lLonce qLonce kLonce
    bLonce := (fun_mk (st := sLonce) lLonce qLonce kLonce).binds (ps := ["_law_sizes", "_law_deeds", "_law_start", "_law_share"]) fun _ _ _ _ _ _ us hl => match us, hl with | [_, _, _, _], _ => rfl
    gLapart := PySem.W.mg_of X G aLapart
    aLapart := fLapart
    dLapart := PySem.W.fnOf "_law_apart" "_law_apart" (defArgs sLapart) (defBody sLapart) (defScope sLapart) .none kVLapart dcLapart pmLapart anLapart cdLapart ctLapart
    fLapart := fun_mk (st := sLapart) lLapart qLapart kLapart
    bLapart := (fun_mk (st := sLapart) lLapart qLapart kLapart).binds (ps := ["_law_one", "_law_other"]) fun _ _ _ _ _ _ us hl => match us, hl with | [_, _], _ => rfl
    gLbelow := PySem.W.mg_of X G aLbelow
    aLbelow := fLbelow
    dLbelow := PySem.W.fnOf "_law_below" "_law_below" (defArgs sLbelow) (defBody sLbelow) (defScope sLbelow) .none kVLbelow dcLbelow pmLbelow anLbelow cdLbelow ctLbelow
    fLbelow := fun_mk (st := sLbelow) lLbelow qLbelow kLbelow
    bLbelow := (fun_mk (st := sLbelow) lLbelow qLbelow kLbelow).binds (ps := ["_law_s", "_law_start"]) fun _ _ _ _ _ _ us hl => match us, hl with | [_, _], _ => rfl
    gLallonce := PySem.W.mg_of X G aLallonce
    aLallonce := fLallonce
    dLallonce := PySem.W.fnOf "_law_all_once" "_law_all_once" (defArgs sLallonce) (defBody sLallonce) (defScope sLallonce) .none kVLallonce dcLallonce pmLallonce anLallonce cdLallonce ctLallonce
    fLallonce := fun_mk (st := sLallonce) lLallonce qLallonce kLallonce
    bLallonce := (fun_mk (st := sLallonce) lLallonce qLallonce kLallonce).binds (ps := ["_law_row_here", "_law_starts", "_law_share"]) fun _ _ _ _ _ _ us hl => match us, hl with | [_, _, _], _ => rfl
    gLgoneon := PySem.W.mg_of X G aLgoneon
    aLgoneon := fLgoneon
    dLgoneon := PySem.W.fnOf "_law_gone_on" "_law_gone_on" (defArgs sLgoneon) (defBody sLgoneon) (defScope sLgoneon) .none kVLgoneon dcLgoneon pmLgoneon anLgoneon cdLgoneon ctLgoneon
    fLgoneon := fun_mk (st := sLgoneon) lLgoneon qLgoneon kLgoneon
    bLgoneon := (fun_mk (st := sLgoneon) lLgoneon qLgoneon kLgoneon).binds (ps := ["_law_row_here", "_law_sizes", "_law_deeds", "_law_starts", "_law_share"]) fun _ _ _ _ _ _ us hl => match us, hl with | [_, _, _, _, _], _ => rfl
    glaw := PySem.W.mg_of X G alaw
    alaw := fa
    dlaw := PySem.W.fnOf "law" "law" (defArgs slaw) (defBody slaw) (defScope slaw) .none kVlaw dclaw pmlaw anlaw cdlaw ctlaw
    flaw := fun_mk (st := slaw) llaw qlaw klaw
    blaw := (fun_mk (st := slaw) llaw qlaw klaw).binds (ps := ["_law_script"]) fun _ _ _ _ _ _ us hl => match us, hl with | [_], _ => rfl
    lJars := ⟨pgJars, hdJars, poJars, saJars⟩
    kJars := ⟨mkJars, aJarsInit, iJarsInit, kcJars⟩
    nJars_sizes := nJars_sizes
    lPour := ⟨pgPour, hdPour, poPour, saPour⟩
    kPour := ⟨mkPour, aPourInit, iPourInit, kcPour⟩
    nPour_a := nPour_a
    nPour_b := nPour_b
    lPut := ⟨pgPut, hdPut, poPut, saPut⟩
    kPut := ⟨mkPut, aPutInit, iPutInit, kcPut⟩
    nPut_a := nPut_a
    nPut_k := nPut_k
    lDraw := ⟨pgDraw, hdDraw, poDraw, saDraw⟩
    kDraw := ⟨mkDraw, aDrawInit, iDrawInit, kcDraw⟩
    nDraw_a := nDraw_a
    nDraw_k := nDraw_k
    lChange := ⟨pgChange, hdChange, poChange, saChange⟩
    kChange := ⟨mkChange, aChangeInit, iChangeInit, kcChange⟩
    nChange_a := nChange_a
    nChange_b := nChange_b
    lRow := ⟨pgRow, hdRow, poRow, saRow⟩
    kRow := ⟨mkRow, aRowInit, iRowInit, kcRow⟩
    nRow_jars := nRow_jars
    nRow_deeds := nRow_deeds
    yChange := ⟨yaChange, yn, yt, ymChange⟩
    yDraw := ⟨yaDraw, yn, yt, ymDraw⟩
    yPour := ⟨yaPour, yn, yt, ymPour⟩
    yPut := ⟨yaPut, yn, yt, ymPut⟩
    iPour_Put := isPour_Put
    iPour_Draw := isPour_Draw
    iPour_Pour := isPour_Pour
    iPour_Change := isPour_Change
    iPut_Put := isPut_Put
    iPut_Draw := isPut_Draw
    iPut_Pour := isPut_Pour
    iPut_Change := isPut_Change
    iDraw_Put := isDraw_Put
    iDraw_Draw := isDraw_Draw
    iDraw_Pour := isDraw_Pour
    iDraw_Change := isDraw_Change
    iChange_Put := isChange_Put
    iChange_Draw := isChange_Draw
    iChange_Pour := isChange_Pour
    iChange_Change := isChange_Change
    tMOSTJARS := tkMOSTJARS
    cMOSTJARS := PySem.W.mg_of X G gMOSTJARS
    tMOSTDEEDS := tkMOSTDEEDS
    cMOSTDEEDS := PySem.W.mg_of X G gMOSTDEEDS
    tMOSTMUCH := tkMOSTMUCH
    cMOSTMUCH := PySem.W.mg_of X G gMOSTMUCH
    tMOSTTIMES := tkMOSTTIMES
    cMOSTTIMES := PySem.W.mg_of X G gMOSTTIMES
    nabs := PySem.W.mg_none_of X G zabs
    nenumerate := PySem.W.mg_none_of X G zenumerate
    nint := PySem.W.mg_none_of X G zint
    nisinstance := PySem.W.mg_none_of X G zisinstance
    nlen := PySem.W.mg_none_of X G zlen
    nlist := PySem.W.mg_none_of X G zlist
    nmax := PySem.W.mg_none_of X G zmax
    nmin := PySem.W.mg_none_of X G zmin
    nrange := PySem.W.mg_none_of X G zrange
    nrepr := PySem.W.mg_none_of X G zrepr
    nsum := PySem.W.mg_none_of X G zsum
    ntuple := PySem.W.mg_none_of X G ztuple
    nzip := PySem.W.mg_none_of X G zzip }⟩
theorem walk {l : PySem.W.OpenLaw} {q : Program} {loose : List Str} {XP : (Str → Option Value) → Heap → Prop} {YP : World → Heap → Prop} {d : DefRec} {K : Params → PySem.W.Frag} (hn : l.most = some 63) (hdf : d.params.defaults = [])
    (hY : ∀ (w : World) (h : Heap), YP w h → (K w.params).In h)
    (F : ∀ (w : World) (mg : Str → Option Value) (fa : Addr) (h : Heap), (K w.params).In h → h.Ns mainGlobals mg → mg d.name = some (.ref fa) →
      ∃ fd : FuncData, (∀ (s : Shared) (u : Value), BindsTo s fd ⟨[u], []⟩ [("_law_script", u)]) ∧ ∀ base : Heap, (K w.params).In base → base.Ns mainGlobals mg → KpR.RunC l.prog w (K w.params) mg base CX0 fa fd ["_law_script"] (spLaw (K w.params))) :
    PySem.W.WalkO q loose XP YP l.row.toRowW d [] (fun f vs => PySem.call f vs) :=
  KpR.walk_ofC (n := 63) (x := "_law_script") (CX := fun _ => CX0) (sp := fun w => spLaw (K w.params)) hn (by decide) hdf hY F (fun _ _ a ns hl _ hS => ⟨a, ns, rfl, hS, hl, fun _ => rfl⟩) fun _ _ _ _ _ z => z
end Kp
open PySem PySem.W PyProof.Rows
set_option maxRecDepth 100000 in
set_option maxHeartbeats 0 in
theorem PySem.Challenge.cw_wholedrops_k90_whole_never_farther_never_holds : PySem.Challenge.rw_wholedrops_k90_whole_never_farther_never.Holds := by
  w_on; o_law; k_head; (case hw => w_witness2)
  k_fill
  refine Kp.walk (l := PySem.Challenge.rw_wholedrops_k90_whole_never_farther_never) rfl rfl (fun w h Y => PySem.W.kIn_of Y) ?F
  case F =>
    intro w mg fa h KX G hmg
    refine' Kp.all_mk KX G hmg ?xJars ?xPour ?xPut ?xDraw ?xChange ?xRow ?acheckmuch ?lcheckmuch ?qcheckmuch ?kcheckmuch ?acheckjar ?lcheckjar ?qcheckjar ?kcheckjar ?acheckdeed ?lcheckdeed ?qcheckdeed ?kcheckdeed ?aJarsInit ?iJarsInit ?lJarsInit ?qJarsInit ?kJarsInit ?aPourInit ?iPourInit ?lPourInit ?qPourInit ?kPourInit ?aPutInit ?iPutInit ?lPutInit ?qPutInit ?kPutInit ?aDrawInit ?iDrawInit ?lDrawInit ?qDrawInit ?kDrawInit ?aChangeInit ?iChangeInit ?lChangeInit ?qChangeInit ?kChangeInit ?aRowInit ?iRowInit ?lRowInit ?qRowInit ?kRowInit ?acheckstart ?lcheckstart ?qcheckstart ?kcheckstart ?abehinddeed ?lbehinddeed ?qbehinddeed ?kbehinddeed ?abehindround ?lbehindround ?qbehindround ?kbehindround ?abehind ?lbehind ?qbehind ?kbehind ?wbehind_parts ?wbehind_times ?aLstate ?lLstate ?qLstate ?kLstate ?aLdigit ?lLdigit ?qLdigit ?kLdigit ?aLdeed ?lLdeed ?qLdeed ?kLdeed ?aLhouse ?lLhouse ?qLhouse ?kLhouse ?aLrow ?lLrow ?qLrow ?kLrow ?aLonce ?lLonce ?qLonce ?kLonce ?aLapart ?lLapart ?qLapart ?kLapart ?aLbelow ?lLbelow ?qLbelow ?kLbelow ?aLallonce ?lLallonce ?qLallonce ?kLallonce ?aLgoneon ?lLgoneon ?qLgoneon ?kLgoneon ?alaw ?llaw ?qlaw ?klaw ?pgJars ?hdJars ?poJars ?saJars ?mkJars ?kcJars ?nJars_sizes ?pgPour ?hdPour ?poPour ?saPour ?mkPour ?kcPour ?nPour_a ?nPour_b ?pgPut ?hdPut ?poPut ?saPut ?mkPut ?kcPut ?nPut_a ?nPut_k ?pgDraw ?hdDraw ?poDraw ?saDraw ?mkDraw ?kcDraw ?nDraw_a ?nDraw_k ?pgChange ?hdChange ?poChange ?saChange ?mkChange ?kcChange ?nChange_a ?nChange_b ?pgRow ?hdRow ?poRow ?saRow ?mkRow ?kcRow ?nRow_jars ?nRow_deeds ?yaChange ?ymChange ?yaDraw ?ymDraw ?yaPour ?ymPour ?yaPut ?ymPut ?yn ?yt ?isPour_Put ?isPour_Draw ?isPour_Pour ?isPour_Change ?isPut_Put ?isPut_Draw ?isPut_Pour ?isPut_Change ?isDraw_Put ?isDraw_Draw ?isDraw_Pour ?isDraw_Change ?isChange_Put ?isChange_Draw ?isChange_Pour ?isChange_Change ?gMOSTJARS ?gMOSTDEEDS ?gMOSTMUCH ?gMOSTTIMES ?zabs ?zenumerate ?zint ?zisinstance ?zlen ?zlist ?zmax ?zmin ?zrange ?zrepr ?zsum ?ztuple ?zzip
    (case xJars => k_is)
    (case xPour => k_is)
    (case xPut => k_is)
    (case xDraw => k_is)
    (case xChange => k_is)
    (case xRow => k_is)
    (case acheckmuch => k_is)
    (case lcheckmuch => k_is)
    (case qcheckmuch => k_is)
    (case kcheckmuch => k_is)
    (case acheckjar => k_is)
    (case lcheckjar => k_is)
    (case qcheckjar => k_is)
    (case kcheckjar => k_is)
    (case acheckdeed => k_is)
    (case lcheckdeed => k_is)
    (case qcheckdeed => k_is)
    (case kcheckdeed => k_is)
    (case aJarsInit => k_is)
    (case iJarsInit => k_is)
    (case lJarsInit => k_is)
    (case qJarsInit => k_is)
    (case kJarsInit => k_is)
    (case aPourInit => k_is)
    (case iPourInit => k_is)
    (case lPourInit => k_is)
    (case qPourInit => k_is)
    (case kPourInit => k_is)
    (case aPutInit => k_is)
    (case iPutInit => k_is)
    (case lPutInit => k_is)
    (case qPutInit => k_is)
    (case kPutInit => k_is)
    (case aDrawInit => k_is)
    (case iDrawInit => k_is)
    (case lDrawInit => k_is)
    (case qDrawInit => k_is)
    (case kDrawInit => k_is)
    (case aChangeInit => k_is)
    (case iChangeInit => k_is)
    (case lChangeInit => k_is)
    (case qChangeInit => k_is)
    (case kChangeInit => k_is)
    (case aRowInit => k_is)
    (case iRowInit => k_is)
    (case lRowInit => k_is)
    (case qRowInit => k_is)
    (case kRowInit => k_is)
    (case acheckstart => k_is)
    (case lcheckstart => k_is)
    (case qcheckstart => k_is)
    (case kcheckstart => k_is)
    (case abehinddeed => k_is)
    (case lbehinddeed => k_is)
    (case qbehinddeed => k_is)
    (case kbehinddeed => k_is)
    (case abehindround => k_is)
    (case lbehindround => k_is)
    (case qbehindround => k_is)
    (case kbehindround => k_is)
    (case abehind => k_is)
    (case lbehind => k_is)
    (case qbehind => k_is)
    (case kbehind => k_is)
    (case wbehind_parts => k_is)
    (case wbehind_times => k_is)
    (case aLstate => k_is)
    (case lLstate => k_is)
    (case qLstate => k_is)
    (case kLstate => k_is)
    (case aLdigit => k_is)
    (case lLdigit => k_is)
    (case qLdigit => k_is)
    (case kLdigit => k_is)
    (case aLdeed => k_is)
    (case lLdeed => k_is)
    (case qLdeed => k_is)
    (case kLdeed => k_is)
    (case aLhouse => k_is)
    (case lLhouse => k_is)
    (case qLhouse => k_is)
    (case kLhouse => k_is)
    (case aLrow => k_is)
    (case lLrow => k_is)
    (case qLrow => k_is)
    (case kLrow => k_is)
    (case aLonce => k_is)
    (case lLonce => k_is)
    (case qLonce => k_is)
    (case kLonce => k_is)
    (case aLapart => k_is)
    (case lLapart => k_is)
    (case qLapart => k_is)
    (case kLapart => k_is)
    (case aLbelow => k_is)
    (case lLbelow => k_is)
    (case qLbelow => k_is)
    (case kLbelow => k_is)
    (case aLallonce => k_is)
    (case lLallonce => k_is)
    (case qLallonce => k_is)
    (case kLallonce => k_is)
    (case aLgoneon => k_is)
    (case lLgoneon => k_is)
    (case qLgoneon => k_is)
    (case kLgoneon => k_is)
    (case alaw => k_is)
    (case llaw => k_is)
    (case qlaw => k_is)
    (case klaw => k_is)
    (case pgJars => k_is)
    (case hdJars => k_is)
    (case poJars => k_is)
    (case saJars => k_is)
    (case mkJars => k_is)
    (case kcJars => k_is)
    (case nJars_sizes => k_is)
    (case pgPour => k_is)
    (case hdPour => k_is)
    (case poPour => k_is)
    (case saPour => k_is)
    (case mkPour => k_is)
    (case kcPour => k_is)
    (case nPour_a => k_is)
    (case nPour_b => k_is)
    (case pgPut => k_is)
    (case hdPut => k_is)
    (case poPut => k_is)
    (case saPut => k_is)
    (case mkPut => k_is)
    (case kcPut => k_is)
    (case nPut_a => k_is)
    (case nPut_k => k_is)
    (case pgDraw => k_is)
    (case hdDraw => k_is)
    (case poDraw => k_is)
    (case saDraw => k_is)
    (case mkDraw => k_is)
    (case kcDraw => k_is)
    (case nDraw_a => k_is)
    (case nDraw_k => k_is)
    (case pgChange => k_is)
    (case hdChange => k_is)
    (case poChange => k_is)
    (case saChange => k_is)
    (case mkChange => k_is)
    (case kcChange => k_is)
    (case nChange_a => k_is)
    (case nChange_b => k_is)
    (case pgRow => k_is)
    (case hdRow => k_is)
    (case poRow => k_is)
    (case saRow => k_is)
    (case mkRow => k_is)
    (case kcRow => k_is)
    (case nRow_jars => k_is)
    (case nRow_deeds => k_is)
    (case yaChange => k_is)
    (case ymChange => k_is)
    (case yaDraw => k_is)
    (case ymDraw => k_is)
    (case yaPour => k_is)
    (case ymPour => k_is)
    (case yaPut => k_is)
    (case ymPut => k_is)
    (case yn => k_is)
    (case yt => k_is)
    (case isPour_Put => (exact KpR.kit_cls (by k_is) (by k_is) (by k_is) (by decide)))
    (case isPour_Draw => (exact KpR.kit_cls (by k_is) (by k_is) (by k_is) (by decide)))
    (case isPour_Pour => exact KpR.kit_self (by simp))
    (case isPour_Change => (exact KpR.kit_cls (by k_is) (by k_is) (by k_is) (by decide)))
    (case isPut_Put => exact KpR.kit_self (by simp))
    (case isPut_Draw => (exact KpR.kit_cls (by k_is) (by k_is) (by k_is) (by decide)))
    (case isPut_Pour => (exact KpR.kit_cls (by k_is) (by k_is) (by k_is) (by decide)))
    (case isPut_Change => (exact KpR.kit_cls (by k_is) (by k_is) (by k_is) (by decide)))
    (case isDraw_Put => (exact KpR.kit_cls (by k_is) (by k_is) (by k_is) (by decide)))
    (case isDraw_Draw => exact KpR.kit_self (by simp))
    (case isDraw_Pour => (exact KpR.kit_cls (by k_is) (by k_is) (by k_is) (by decide)))
    (case isDraw_Change => (exact KpR.kit_cls (by k_is) (by k_is) (by k_is) (by decide)))
    (case isChange_Put => (exact KpR.kit_cls (by k_is) (by k_is) (by k_is) (by decide)))
    (case isChange_Draw => (exact KpR.kit_cls (by k_is) (by k_is) (by k_is) (by decide)))
    (case isChange_Pour => (exact KpR.kit_cls (by k_is) (by k_is) (by k_is) (by decide)))
    (case isChange_Change => exact KpR.kit_self (by simp))
    (case gMOSTJARS => k_is)
    (case gMOSTDEEDS => k_is)
    (case gMOSTMUCH => k_is)
    (case gMOSTTIMES => k_is)
    (case zabs => k_is)
    (case zenumerate => k_is)
    (case zint => k_is)
    (case zisinstance => k_is)
    (case zlen => k_is)
    (case zlist => k_is)
    (case zmax => k_is)
    (case zmin => k_is)
    (case zrange => k_is)
    (case zrepr => k_is)
    (case zsum => k_is)
    (case ztuple => k_is)
    (case zzip => k_is)


